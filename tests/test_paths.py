"""Points 240 to 244: next filings, reversal paths, judged paths."""

import random
import unittest

from casedraw import draw_case_day, draw_config, sound_cases
from casemodel import BOTH, Model
from courtroom import draw_docket
from exact import ExactCase
from filingmodel import contrary_by_definition, processed_by_definition
from overturn.errors import NotReversible
from overturn.filings import processed
from overturn.paths import judge_path, next_filing, reversal_path
from overturn.reversals import reversal_cost
from overturn.review import needed_at
from rooms import (
    HIGH, LOW, MIDDLE, case_as, changed, claim_as, config_of, court, deliberating, judged,
    other_party,
)
from trees import number_of, relevant_by_definition

TEXT = "((a and (b+ or c!)) unless d)"
CONFIG = config_of(TEXT)
LOST = claim_as("11?0")
LEVELS = (None, 0, 1, 2, 9)


def next_by_definition(config, case, day, claim, party, up_to):
    """Return the next filing by the document, or None."""
    model = Model(config, case)
    cost, required = reversal_cost(config, case, day, claim, party, up_to=up_to)
    if model.winner(claim) == party or cost is None:
        return None
    number = case[0]
    if not model.is_judged and model.stage[1]:
        return remitted_by_definition(config, model, claim, required, up_to)
    if not model.is_judged:
        for one, (cause, _, _, _) in enumerate(model.claims):
            for issue in relevant_by_definition(model.causes[cause], model.findings(one)):
                letter = "1" if model.leaf((one, issue))[2] == party else "0"
                return "ruling", number, one, issue, letter * model.courts[model.chain[0]][1], ()
    opponent = other_party(party)
    if party == "respondent" and model.may_be_opposed(day):
        return "oppose", number
    if party == "respondent" and model.may_still_be_opposed(day):
        return "appeal", number, "claimant", (model.nameable("claimant")[0],)
    if model.named(party) is not None:
        return ("hearing", number) if model.is_done(day, opponent) else ("waive", number, opponent)
    if model.may_appeal(day, party):
        pairs = []
        for issue, (finding, wanted) in enumerate(zip(model.findings(claim), required)):
            if {finding, wanted} == {"0", "1"}:
                pairs.append((claim, issue))
        return "appeal", number, party, tuple(pairs)
    return "appeal", number, opponent, (model.nameable(opponent)[0],)


def remitted_by_definition(config, model, claim, required, up_to):
    """Return the ruling on the first remitted issue by the document."""
    pair = model.stage[1][0]
    of_law, majority, _ = model.leaf(pair)
    present = model.element(pair)["finding"] == "1"
    binding = model.element(pair)["binding"]
    court_here = model.courts[model.chain[model.level]]
    matter = (of_law, majority, model.claims[pair[0]][1], binding)
    needed = needed_at(court_here, matter, model.level)[present]
    top = max(len(model.chain) - 1 if up_to is None else up_to, model.level)
    later = model.votes_on_path(pair, model.level + 1, top)
    wanted = required[pair[1]] if pair[0] == claim else "?"
    is_reversed = wanted == ("0" if present else "1") and needed is not None
    is_reversed = is_reversed and needed <= number_of(later)
    finding = present != is_reversed
    bench = court_here[1]
    if binding is not None and binding[0] == model.level and binding[1] is not finding:
        bench = court_here[2]
    votes = str(int(finding)) * bench
    if is_reversed:
        votes = str(int(finding)) * needed + str(int(present)) * (bench - needed)
    return ("ruling", model.number, *pair, votes, ())


class PathCase(ExactCase):

    def check(self, config, case, day, claim, party, up_to=None):
        """Check a reversal path and return it."""
        cost = reversal_cost(config, case, day, claim, party, up_to=up_to)[0]
        if cost is None:
            with self.assertRaises(NotReversible):
                reversal_path(config, case, day, claim, party, up_to=up_to)
            self.assertExact(next_filing(config, case, day, claim, party, up_to=up_to), None)
            return None
        path = reversal_path(config, case, day, claim, party, up_to=up_to)
        here, votes = case, 0
        for filing in path:
            self.assertExact(next_filing(config, here, day, claim, party, up_to=up_to), filing)
            expected = next_by_definition(config, here, day, claim, party, up_to)
            self.assertExact(filing, expected, (config, here, day, claim, party, up_to))
            reason, _, behind = processed_by_definition(config, here, day, filing)
            self.assertExact(reason, None, (config, here, day, filing))
            votes += contrary_by_definition(config, here, day, filing, claim)
            here = behind
        model = Model(config, here)
        self.assertExact(next_filing(config, here, day, claim, party, up_to=up_to), None)
        self.assertExact(model.winner(claim), party, (config, case, day, claim, party, up_to))
        self.assertExact(votes, cost, (config, case, day, claim, party, up_to))
        top = len(case[5]) - 1 if up_to is None else up_to
        self.assertLessEqual(model.level, max(top, case[12]))
        self.assertLessEqual(len(path), (len(case[5]) + 1) * (len(model.pairs) + 6))
        steps, winner, level = judge_path(config, case, claim, tuple((day, one) for one in path))
        self.assertExact((winner, level), (party, model.level))
        self.assertExact([reason for reason, _ in steps], [None] * len(path))
        self.assertExact(sum(votes for _, votes in steps), cost)
        return path


class NoNextFiling(PathCase):

    def test_the_party_has_won(self):
        for case in (
            case_as(LOST),
            case_as(LOST, level=1, stage=deliberating((0, 0))),
            case_as(LOST, claim_as("????"), stage=deliberating()),
        ):
            for up_to in LEVELS:
                self.assertExact(next_filing(CONFIG, case, 0, 0, "claimant", up_to=up_to), None)
                self.assertExact(reversal_path(CONFIG, case, 0, 0, "claimant", up_to=up_to), ())

    def test_the_cost_is_infinite(self):
        case = case_as(LOST)
        for day, up_to in ((31, None), (0, 0), (31, 0)):
            self.assertExact(next_filing(CONFIG, case, day, 0, "respondent", up_to=up_to), None)
            with self.assertRaises(NotReversible):
                reversal_path(CONFIG, case, day, 0, "respondent", up_to=up_to)

    def test_arguments_by_name(self):
        for function in (next_filing, reversal_path):
            with self.assertRaises(TypeError):
                function(CONFIG, case_as(LOST), 0, 0, "respondent", 1)


class RemittedRulings(PathCase):

    def next(self, case, party="respondent", config=CONFIG, claim=0, **named):
        found = next_filing(config, case, 5, claim, party, **named)
        up_to = named.get("up_to")
        self.assertExact(found, next_by_definition(config, case, 5, claim, party, up_to))
        return found

    def test_reversed_by_exactly_the_votes_that_are_needed(self):
        case = case_as(LOST, level=1, number=3, stage=deliberating((0, 0)))
        self.assertExact(self.next(case), ("ruling", 3, 0, 0, "001", ()))
        lost = case_as(claim_as("0???"), level=1, number=3, stage=deliberating((0, 0)))
        self.assertExact(self.next(lost, "claimant"), ("ruling", 3, 0, 0, "110", ()))

    def test_the_first_remitted_issue(self):
        case = case_as(LOST, level=1, stage=deliberating((0, 1), (0, 3)))
        # Either of them decides the claim; the cheapest assignment requires the first one.
        self.assertExact(self.next(case), ("ruling", 0, 0, 1, "001", ()))
        case = case_as(LOST, level=1, stage=deliberating((0, 0), (0, 3)))
        self.assertExact(self.next(case), ("ruling", 0, 0, 0, "001", ()))

    def test_an_issue_that_need_not_be_reversed(self):
        config = config_of("(a or b)", courts=(HIGH, court(MIDDLE, bench=2), LOW))
        case = case_as(claim_as("11"), claim_as("11", barred=(0,)), level=1, stage=deliberating((0, 0), (1, 1)))
        # The second claim can never be reversed, and the first one only by its issue b, which is not remitted.
        with self.assertRaises(NotReversible):
            reversal_path(config, case, 5, 0, "respondent")
        case = case_as(claim_as("10"), claim_as("01"), level=1, stage=deliberating((0, 0), (1, 1)))
        self.assertExact(self.next(case, config=config, claim=1), ("ruling", 0, 0, 0, "11", ()))
        self.assertExact(self.next(case, config=config, claim=0), ("ruling", 0, 0, 0, "01", ()))

    def test_left_to_a_higher_court_that_needs_fewer_votes(self):
        for high, expected in ((1, "111"), (3, "001"), (5, "001")):
            courts = (court(HIGH, bench=high), MIDDLE, LOW)
            config = config_of("a!", courts=courts)
            case = case_as(claim_as("1"), level=1, stage=deliberating((0, 0)))
            # One vote of one judge is less than two, two of three are as many, three of five are more.
            self.assertExact(self.next(case, config=config), ("ruling", 0, 0, 0, expected, ()))
            self.assertExact(self.next(case, config=config, up_to=1), ("ruling", 0, 0, 0, "001", ()))
            self.assertExact(self.next(case, config=config, up_to=2), ("ruling", 0, 0, 0, expected, ()))

    def test_left_to_a_higher_court_because_this_one_is_bound(self):
        config = config_of("a!")
        case = case_as(claim_as("1", bindings={0: (2, True)}), level=1, stage=deliberating((0, 0)))
        self.assertExact(self.next(case, config=config), ("ruling", 0, 0, 0, "111", ()))
        path = self.check(config, case, 5, 0, "respondent")
        self.assertExact(path, (
            ("ruling", 0, 0, 0, "111", ()), ("appeal", 0, "respondent", ((0, 0),)), ("hearing", 0),
            ("ruling", 0, 0, 0, "000001111", ()),
        ))

    def test_the_full_bench_departs_from_its_own_precedent(self):
        courts = (court(HIGH, least=101), court(MIDDLE, bench=3, full_bench=5), LOW)
        config = config_of("a!", courts=courts)
        case = case_as(claim_as("1", bindings={0: (1, True)}), level=1, stage=deliberating((0, 0)))
        self.assertExact(self.next(case, config=config), ("ruling", 0, 0, 0, "00011", ()))
        # The present finding departs from it: only the full bench can keep it.
        both = config_of("(a! and b)", courts=courts)
        claim = claim_as("01", bindings={0: (1, True)})
        other = claim_as("00")
        case = case_as(claim, other, level=1, stage=deliberating((0, 0), (1, 0)))
        self.assertExact(self.next(case, "claimant", both, 0), ("ruling", 0, 0, 0, "110", ()))
        self.assertExact(self.next(case, "respondent", both, 0), None)
        self.assertExact(self.next(case, "claimant", both, 1), None)
        opened = case_as(claim, claim_as("01"), level=1, stage=deliberating((0, 0), (1, 0)))
        self.assertExact(self.next(opened, "claimant", both, 1), ("ruling", 0, 0, 0, "00000", ()))


class FreeRulings(PathCase):

    def test_the_first_relevant_issue_of_all_claims(self):
        case = case_as(claim_as("0???"), claim_as("1??0"), claim_as("????"), number=4, stage=deliberating())
        for claim, party, expected in (
            (0, "claimant", None),
            (1, "claimant", ("ruling", 4, 1, 1, "1", ())),
            (2, "claimant", ("ruling", 4, 1, 1, "1", ())),
            (2, "respondent", ("ruling", 4, 1, 1, "0", ())),
        ):
            found = next_filing(config_of(TEXT, courts=(HIGH, court(MIDDLE, facts=False), LOW)), case, 5, claim, party)
            if expected is not None:
                self.assertExact(found, expected)
        self.assertExact(
            next_filing(CONFIG, changed(case, claims=case[11][2:]), 5, 0, "claimant"), ("ruling", 4, 0, 0, "1", ()))

    def test_the_finding_that_favours_the_party(self):
        case = case_as(claim_as("11??"), stage=deliberating())
        self.assertExact(next_filing(CONFIG, case, 5, 0, "claimant"), ("ruling", 0, 0, 3, "0", ()))
        self.assertExact(next_filing(CONFIG, case, 5, 0, "respondent"), ("ruling", 0, 0, 3, "1", ()))

    def test_the_ordinary_bench_of_the_court_at_level_0(self):
        courts = (HIGH, MIDDLE, court(LOW, bench=3, full_bench=5))
        config = config_of(TEXT, courts=courts)
        for level in range(3):
            case = case_as(claim_as("1??0"), level=level, stage=deliberating())
            found = next_filing(config, case, 5, 0, "respondent")
            self.assertExact(found, ("ruling", 0, 0, 1, "000", ()))

    def test_a_whole_path(self):
        case = case_as(claim_as("????"), stage=deliberating())
        self.assertExact(self.check(CONFIG, case, 5, 0, "claimant"), (
            ("ruling", 0, 0, 0, "1", ()), ("ruling", 0, 0, 1, "1", ()), ("ruling", 0, 0, 3, "0", ()),
        ))


class BehindJudgment(PathCase):

    DEFAULT = claim_as("1110", by_default=(0, 1, 2, 3))
    BOTH_LOST = (LOST, claim_as("0???"))

    def next(self, case, party="respondent", day=5, claim=0, config=CONFIG):
        found = next_filing(config, case, day, claim, party)
        self.assertExact(found, next_by_definition(config, case, day, claim, party, None))
        return found

    def test_an_opposition(self):
        case = case_as(self.DEFAULT, number=2)
        self.assertExact(self.next(case), ("oppose", 2))
        # It comes before an appeal, also where the claim was not decided by default.
        case = case_as(LOST, self.DEFAULT, number=2)
        self.assertExact(self.next(case, claim=0), ("oppose", 2))
        self.assertExact(self.next(case, day=30), ("oppose", 2))
        self.check(CONFIG, case, 30, 0, "respondent")

    def test_the_claimant_does_not_oppose(self):
        case = case_as(self.DEFAULT, claim_as("0???"))
        self.assertExact(self.next(case, "claimant", claim=1), ("appeal", 0, "claimant", ((1, 0),)))

    def test_an_appeal_of_the_claimant_reopens_the_opposition(self):
        attempts = (((10, "hand", False),), ((0, "hand", False),))
        case = case_as(self.DEFAULT, claim_as("00?1"), stage=judged(0, attempts))
        self.assertExact(self.next(case, day=14), ("oppose", 0))
        self.assertExact(self.next(case, day=15), ("appeal", 0, "claimant", ((1, 0),)))
        path = self.check(CONFIG, case, 24, 0, "respondent")
        self.assertExact(path[:2], (("appeal", 0, "claimant", ((1, 0),)), ("oppose", 0)))
        self.assertExact(self.next(case, day=25), None)

    def test_a_hearing_or_a_waiver_of_the_opponent(self):
        stage = judged(0, named=(None, ((0, 0),)), first_appeal=1)
        case = case_as(*self.BOTH_LOST, stage=stage)
        self.assertExact(self.next(case), ("waive", 0, "claimant"))
        self.assertExact(self.next(case, day=31), ("hearing", 0))
        self.assertExact(self.next(changed(case, claims=(LOST,))), ("hearing", 0))
        waived = changed(case, stage=judged(0, named=((), ((0, 0),)), first_appeal=1))
        self.assertExact(self.next(waived), ("hearing", 0))
        appealed = changed(case, stage=judged(0, named=(((1, 0),), ((0, 0),)), first_appeal=1))
        self.assertExact(self.next(appealed), ("hearing", 0))

    def test_an_own_appeal_names_what_is_to_be_reversed(self):
        config = config_of("((a or b) or c)")
        case = case_as(claim_as("101"), claim_as("111"), claim_as("000"), number=6)
        self.assertExact(self.next(case, config=config, claim=0), ("appeal", 6, "respondent", ((0, 0), (0, 2))))
        found = self.next(case, config=config, claim=1)
        self.assertExact(found, ("appeal", 6, "respondent", ((1, 0), (1, 1), (1, 2))))
        self.assertExact(self.next(case, "claimant", config=config, claim=2), ("appeal", 6, "claimant", ((2, 0),)))

    def test_an_undetermined_issue_is_not_named(self):
        config = config_of("((a and b) or c)")
        case = case_as(claim_as("0?0"))
        # c alone is as cheap as a, but a stands first.
        self.assertExact(self.next(case, "claimant", config=config), ("appeal", 0, "claimant", ((0, 0),)))

    def test_an_appeal_of_the_opponent_reopens_the_period(self):
        attempts = (((10, "hand", False),), ((0, "hand", False),))
        case = case_as(LOST, claim_as("00?1"), stage=judged(0, attempts))
        self.assertExact(self.next(case, day=14), ("appeal", 0, "respondent", ((0, 0),)))
        self.assertExact(self.next(case, day=15), ("appeal", 0, "claimant", ((1, 0),)))
        path = self.check(CONFIG, case, 24, 0, "respondent")
        self.assertExact(path[:3], (
            ("appeal", 0, "claimant", ((1, 0),)), ("appeal", 0, "respondent", ((0, 0),)), ("hearing", 0),
        ))
        self.assertExact(self.next(case, day=25), None)
        other = case_as(claim_as("00?1"), LOST, stage=judged(0, attempts[::-1]))
        self.assertExact(self.next(other, "claimant", day=15), ("appeal", 0, "respondent", ((1, 0),)))
        self.check(CONFIG, other, 24, 0, "claimant")


class Judging(ExactCase):

    CASE = case_as(LOST, claim_as("0???"), number=1)

    def test_nothing(self):
        self.assertExact(judge_path(CONFIG, self.CASE, 0, ()), ((), "claimant", 0))
        self.assertExact(judge_path(CONFIG, self.CASE, 1, ()), ((), "respondent", 0))
        undecided = case_as(claim_as("1??0"), level=2, stage=deliberating())
        self.assertExact(judge_path(CONFIG, undecided, 0, ()), ((), None, 2))

    def test_rejected_filings_and_votes_on_other_claims(self):
        filings = (
            (5, ("answer", 1)),
            (5, ("appeal", 1, "respondent", ((0, 0),))),
            (6, ("appeal", 1, "claimant", ((1, 0),))),
            (6, ("hearing", 1)),
            (7, ("ruling", 1, 0, 0, "00", ())),
            (7, ("ruling", 1, 0, 0, "100", ())),
            (7, ("ruling", 1, 1, 0, "110", ())),
            (8, ("ruling", 1, 1, 1, "1", ())),
        )
        steps = (
            ("judged", 0), (None, 0), (None, 0), (None, 0), ("bench", 0), (None, 2), (None, 0), (None, 0),
        )
        self.assertExact(judge_path(CONFIG, self.CASE, 0, filings), (steps, "respondent", 1))
        others = steps[:5] + ((None, 0), (None, 2), (None, 0))
        self.assertExact(judge_path(CONFIG, self.CASE, 1, filings), (others, None, 1))

    def test_each_filing_on_its_day(self):
        filings = ((5, ("appeal", 1, "respondent", ((0, 0),))), (30, ("hearing", 1)), (31, ("hearing", 1)))
        steps = ((None, 0), ("not expired", 0), (None, 0))
        self.assertExact(judge_path(CONFIG, self.CASE, 0, filings), (steps, "claimant", 1))

    def test_drawn_filings(self):
        draw = random.Random(2440)
        for _ in range(80):
            config = draw_config(draw)
            docket = draw_docket(draw, config, draw.randint(5, 50))
            for case in docket.cases:
                own = [
                    pair for pair in docket.log
                    if pair[1][0] not in ("heartbeat", "complaint") and pair[1][1] == case[0]
                ]
                start = draw.choice((0, len(own) // 2))
                here = self.first_state(config, docket, case[0])
                for day, filing in own[:start]:
                    here = processed(config, here, day, filing)[2]
                for claim in range(len(case[11])):
                    steps, winner, level = judge_path(config, here, claim, tuple(own[start:]))
                    self.assertExact((winner, level), (Model(config, case).winner(claim), case[12]))
                    at = here
                    for (day, filing), step in zip(own[start:], steps):
                        votes = contrary_by_definition(config, at, day, filing, claim)
                        reason, _, at = processed(config, at, day, filing)
                        self.assertExact(step, (reason, votes))

    def first_state(self, config, docket, number):
        """Return a case of the docket as its complaint has opened it."""
        other = docket.clone()
        while len(other) > number:
            case = other.cases[number]
            other.undo()
        return case


class Drawn(PathCase):

    def test_paths_by_definition(self):
        lengths = {}
        for draw, config, case, day in sound_cases(244, 2500, courts=4):
            claim = draw.randrange(len(case[11]))
            party, up_to = draw.choice(BOTH), draw.choice((None, None, 0, 1, 2, 9))
            path = self.check(config, case, day, claim, party, up_to)
            if path:
                for filing in path:
                    lengths[filing[0]] = lengths.get(filing[0], 0) + 1
        self.assertEqual(
            sorted(lengths), ["appeal", "hearing", "oppose", "ruling", "waive"], lengths)
        self.assertGreater(min(lengths.values()), 20, lengths)

    def test_in_the_cases_of_dockets(self):
        draw = random.Random(243)
        for _ in range(120):
            config = draw_config(draw, courts=3)
            docket = draw_docket(draw, config, draw.randint(1, 40))
            for case in docket.cases:
                day = max(docket.day, draw_case_day(draw, config, case))
                for claim in range(len(case[11])):
                    for party in BOTH:
                        self.check(config, case, day, claim, party, draw.choice((None, 0, 1)))


if __name__ == "__main__":
    unittest.main()
