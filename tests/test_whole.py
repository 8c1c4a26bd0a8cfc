"""Points 4, 5 and 6: what holds over the whole program."""

import random
import unittest

from casedraw import draw_config, sound_cases
from casemodel import BOTH
from courtroom import draw_docket, draw_filing
from exact import ExactCase
from overturn import cases, complaints, filings, paths, reports, reversals, standing
from overturn.dockets import Docket
from overturn.errors import NotReversible
from overturn.registries import Registry
from test_registries import draw_submissions


def strange_parts(value):
    """Return the parts of a value that are neither tuples nor of the plain kinds of point 4."""
    if type(value) is tuple:
        return [strange for part in value for strange in strange_parts(part)]
    if type(value) is str:
        return [] if all(" " <= letter <= "~" and letter != "%" for letter in value) else [value]
    return [] if value is None or type(value) in (int, bool) else [value]


class Kinds(ExactCase):

    def check(self, *values):
        self.assertExact(strange_parts(values), [])

    def test_what_is_told_of_cases(self):
        for draw, config, case, day in sound_cases(4, 200):
            claim, party = draw.randrange(len(case[11])), draw.choice(BOTH)
            filing = draw_filing(draw, config, case, day)
            self.check(
                cases.flaw(config, case),
                cases.findings_of(case, claim),
                cases.claim_winner(config, case, claim),
                cases.adverse_issues(config, case, party),
                cases.nameable_issues(config, case, party),
                standing.periods_of(config, case),
                reversals.issue_costs(config, case, day, claim),
                reversals.reversal_cost(config, case, day, claim, party),
                reversals.costs_by_level(config, case, day, claim, party),
                reversals.current_grounds(config, case, day, claim),
                filings.processed(config, case, day, filing),
                filings.contrary_votes(config, case, day, filing, claim),
                paths.next_filing(config, case, day, claim, party),
                paths.judge_path(config, case, claim, ((day, filing),)),
                reports.amount_due(config, case, day, claim),
                reports.case_costs(config, case),
                reports.all_debts(config, (case,), day),
                reports.estate_of(config, (case,), day, case[4][1], 100),
                reports.balance_of((case,), case[4][0]),
                reports.final_claims(config, (case,), day),
            )
            truths = (
                standing.may_appeal(config, case, day, party),
                standing.may_still_appeal(config, case, day, party),
                standing.is_done(config, case, day, party),
                standing.may_be_opposed(config, case, day),
                standing.may_still_be_opposed(config, case, day),
                reversals.is_final(config, case, day, claim),
            )
            self.assertTrue(all(truth is True or truth is False for truth in truths))

    def test_what_dockets_and_registries_tell(self):
        draw = random.Random(40)
        for _ in range(40):
            config = draw_config(draw)
            docket = draw_docket(draw, config, 30)
            self.check(docket.config, docket.day, docket.cases, docket.precedents, docket.transfers, docket.log)
            self.check(docket.rehearse(((docket.day, ("heartbeat",)),)), docket.undo(2), tuple(docket))
            registry = Registry(config)
            self.check(registry.submit(tuple(draw_submissions(draw, config, 9))), tuple(registry))
            self.check(registry.config, registry.day, registry.cases, registry.watermarks, registry.pending)
            self.check(registry.precedents, registry.transfers, registry.log, registry.undo())

    def test_complaints(self):
        for _, config, _, day in sound_cases(41, 50):
            self.check(complaints.opened(config, (), 0, day, ("complaint", 0, (), 1, 2, ((0, 9),))))


class Changes(ExactCase):

    def test_what_was_returned_never_changes(self):
        draw = random.Random(5)
        for _ in range(20):
            config = draw_config(draw)
            docket = draw_docket(draw, config, 20)
            told = docket.cases, docket.precedents, docket.transfers, docket.log
            before = repr(told)
            docket.undo(draw.randint(0, 20))
            docket.file(docket.day, ("heartbeat",))
            self.assertExact(repr(told), before)

    def test_more_than_the_bounds_may_come_back(self):
        # A log of more than 60 pairs, with more filings than a rehearsal takes otherwise.
        draw = random.Random(50)
        config = draw_config(draw)
        docket = draw_docket(draw, config, 80)
        again = Docket.replayed(config, docket.log)
        self.assertExact(again.cases, docket.cases)
        told = Docket(config).rehearse(docket.log)
        self.assertExact(len(told), 80)

    def test_an_error_changes_nothing(self):
        for draw, config, case, day in sound_cases(6, 100):
            claim, party = draw.randrange(len(case[11])), draw.choice(BOTH)
            before = repr((config, case))
            try:
                paths.reversal_path(config, case, day, claim, party)
            except NotReversible:
                self.assertExact(reversals.reversal_cost(config, case, day, claim, party), (None, None))
            self.assertExact(repr((config, case)), before)


if __name__ == "__main__":
    unittest.main()
