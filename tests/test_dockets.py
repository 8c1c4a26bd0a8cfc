"""Points 230, 232, 233 and 234: the docket."""

import inspect
import random
import unittest

from casedraw import draw_config
from courtroom import draw_any_filing, draw_day, draw_docket
from exact import ExactCase
from overturn.complaints import opened
from overturn.configs import config_errors
from overturn.dockets import Docket
from overturn.errors import BadConfig, DayPassed, NothingToUndo
from overturn.filings import processed
from rooms import HIGH, LOW, MIDDLE, config_of, court

CONFIG = config_of("((a and (b+ or c!)) unless d)", "(a! or b!)")
COMPLAINT = ("complaint", 0, (2, 5), 1, 2, ((0, 100),))
LAW = ("complaint", 0, (2, 5), 3, 1, ((1, 100), (1, 50)))
EMPTY = (0, (), (), (), (), 0)


def state_of(docket):
    """Return all that a docket tells."""
    return docket.day, docket.cases, docket.precedents, docket.transfers, docket.log, len(docket)


class DocketCase(ExactCase):

    def docket(self, *filings, config=CONFIG):
        """Return a docket that has processed the pairs, all of which it accepts."""
        docket = Docket(config)
        for day, filing in filings:
            self.assertExact(docket.file(day, filing)[0], None, filing)
        return docket


class NewDockets(DocketCase):

    def test_empty(self):
        docket = Docket(CONFIG)
        self.assertExact(state_of(docket), EMPTY)
        self.assertExact(docket.config, CONFIG)
        self.assertExact(list(docket), [])

    def test_configurations_that_are_not_valid(self):
        for config in (
            config_of("a", courts=(court(HIGH, superior=0), MIDDLE, LOW)),
            config_of("a", courts=(HIGH, court(MIDDLE, bench=5, full_bench=4), court(LOW, superior=2))),
            config_of("a", jurisdiction=(((0, 1, 2, 3), 0, None, 3),)),
            config_of("a", jurisdiction=(((0, 1, 2, 3), 5, None, 2),)),
            config_of("a", jurisdiction=(((0, 1, 2, 3), 0, None, 2), ((1,), 7, 9, 2))),
        ):
            for make in (Docket, lambda told: Docket.replayed(told, ((5, ("heartbeat",)), (1, ("heartbeat",))))):
                with self.assertRaises(BadConfig) as caught:
                    make(config)
                self.assertExact(caught.exception.errors, config_errors(config))
                self.assertNotEqual(caught.exception.errors, ())

    def test_what_is_listed_cannot_be_set(self):
        docket = Docket(CONFIG)
        for name in ("config", "day", "cases", "precedents", "transfers", "log"):
            self.assertIsInstance(inspect.getattr_static(docket, name), property)


class Filing(DocketCase):

    def test_complaints_are_numbered(self):
        docket = Docket(CONFIG)
        for number in range(6):
            self.assertExact(docket.file(number, COMPLAINT), (None, (number, 2)))
        self.assertExact(docket.file(6, COMPLAINT), ("many", ()))
        self.assertExact([case[:2] for case in docket.cases], [(number, number) for number in range(6)])
        self.assertExact(len(docket), 6)
        self.assertExact(tuple(docket), docket.cases)
        self.assertExact(docket.day, 6)

    def test_rejected_complaints_open_nothing(self):
        docket = Docket(CONFIG)
        self.assertExact(docket.file(3, ("complaint", 0, (), 1, 1, ((0, 1),))), ("same", ()))
        self.assertExact(docket.file(3, ("complaint", 0, (), 1, 2, ((2, 1),))), ("cause", ()))
        self.assertExact((len(docket), docket.transfers, len(docket.log), docket.day), (0, (), 2, 3))
        self.assertExact(docket.file(3, COMPLAINT), (None, (0, 2)))

    def test_heartbeats(self):
        docket = self.docket((2, COMPLAINT))
        before = state_of(docket)[1:4]
        self.assertExact(docket.file(9, ("heartbeat",)), (None, ()))
        self.assertExact(state_of(docket)[1:4], before)
        self.assertExact((docket.day, docket.log), (9, ((2, COMPLAINT), (9, ("heartbeat",)))))

    def test_filings_in_a_case_that_the_docket_does_not_have(self):
        docket = self.docket((2, COMPLAINT))
        for number in (1, 2, 99):
            for filing in (
                ("serve", number, "claimant", "hand"), ("undelivered", number, "claimant", 0),
                ("answer", number), ("admit", number, "claimant", 9, 9), ("default", number),
                ("oppose", number), ("ruling", number, 0, 0, "1", ()), ("appeal", number, "claimant", ()),
                ("waive", number, "claimant"), ("hearing", number), ("stay", number, 0, 0),
                ("deposit", number, 0, 5), ("enforce", number, 0), ("restitute", number, 0),
                ("release", number, 0),
            ):
                self.assertExact(docket.file(2, filing), ("no case", ()))
        self.assertExact((docket.cases, docket.transfers), (self.docket((2, COMPLAINT)).cases, ((1, None, 1),)))

    def test_filings_in_a_case_change_only_this_case(self):
        docket = self.docket((0, COMPLAINT), (1, COMPLAINT), (2, COMPLAINT))
        before = docket.cases
        filing = ("ruling", 1, 0, 0, "1", ())
        told = docket.file(4, filing)
        expected = processed(CONFIG, before[1], 4, filing)
        self.assertExact(told, expected[:2])
        self.assertExact(docket.cases, (before[0], expected[2], before[2]))

    def test_the_days_never_fall(self):
        docket = self.docket((5, COMPLAINT), (5, ("answer", 0)))
        before = state_of(docket)
        for filing in (("heartbeat",), COMPLAINT, ("answer", 0), ("hearing", 7)):
            for day in (0, 4):
                with self.assertRaises(DayPassed):
                    docket.file(day, filing)
                self.assertExact(state_of(docket), before)
        self.assertExact(docket.file(5, ("heartbeat",)), (None, ()))

    def test_a_rejected_filing_moves_the_day(self):
        docket = self.docket((5, COMPLAINT))
        self.assertExact(docket.file(8, ("hearing", 3)), ("no case", ()))
        self.assertExact(docket.day, 8)
        with self.assertRaises(DayPassed):
            docket.file(7, ("heartbeat",))


class Precedents(DocketCase):

    def test_an_accepted_ruling_on_an_issue_of_law(self):
        docket = self.docket((0, COMPLAINT), (0, ("ruling", 0, 0, 0, "1", ())))
        self.assertExact(docket.precedents, ())
        docket.file(1, ("ruling", 0, 0, 2, "0", (5,)))
        self.assertExact(docket.precedents, ((0, 0, 2, 0, 2, False, (5,)),))
        docket.file(1, ("ruling", 0, 0, 1, "1", (2,)))
        self.assertExact(docket.precedents, ((0, 0, 2, 0, 2, False, (5,)),))

    def test_not_a_rejected_one(self):
        docket = self.docket((0, COMPLAINT))
        for votes, tags in (("11", ()), ("1", (3,)), ("", ())):
            docket.file(0, ("ruling", 0, 0, 2, votes, tags))
        self.assertExact(docket.precedents, ())

    def test_the_claim_and_its_cause(self):
        docket = self.docket(
            (0, COMPLAINT), (0, LAW), (0, ("ruling", 1, 1, 1, "0", ())), (0, ("ruling", 1, 0, 0, "0", (2, 5))))
        self.assertExact(docket.precedents, ((1, 1, 1, 1, 2, False, ()), (1, 0, 0, 1, 2, False, (2, 5))))

    def test_the_ruling_court_at_a_higher_level(self):
        docket = self.docket(
            (0, LAW[:5] + (((1, 100),),)),
            (0, ("ruling", 0, 0, 0, "1", ())),
            (0, ("appeal", 0, "respondent", ((0, 0),))),
            (0, ("hearing", 0)),
            (0, ("ruling", 0, 0, 0, "001", (2,))),
        )
        # The one of the lowest court is replaced.
        self.assertExact(docket.precedents, ((0, 0, 0, 1, 1, False, (2,)),))
        # Now nothing is remitted, and so the lowest court rules again, although the case is at level 1.
        self.assertExact(docket.cases[0][12:], (1, ("deliberating", ())))
        docket.file(0, ("ruling", 0, 0, 1, "1", (5,)))
        self.assertExact(docket.precedents, ((0, 0, 0, 1, 1, False, (2,)), (0, 0, 1, 1, 2, True, (5,))))

    def test_the_latest_ruling_on_an_issue_is_the_last(self):
        # Two cases with rulings on the same issue, the first one again by the middle court.
        one = LAW[:5] + (((1, 100),),)
        docket = self.docket(
            (0, one), (0, one),
            (0, ("ruling", 0, 0, 0, "1", ())), (0, ("ruling", 1, 0, 0, "1", ())),
            (0, ("appeal", 0, "respondent", ((0, 0),))), (0, ("hearing", 0)),
            (0, ("ruling", 0, 0, 0, "111", ())),
        )
        self.assertExact(docket.precedents, ((1, 0, 0, 1, 2, True, ()), (0, 0, 0, 1, 1, True, ())))

    def test_they_bind_later_cases_and_not_existing_ones(self):
        one = LAW[:5] + (((1, 100),),)
        docket = self.docket((0, one), (0, one), (0, ("ruling", 0, 0, 0, "1", ())))
        self.assertExact(docket.cases[1][11][0][3][0], ("?", False, None, False))
        docket.file(0, one)
        self.assertExact(docket.cases[2][11][0][3][0], ("1", False, (0, True), False))
        self.assertExact(docket.cases[2][13][0], "judged")
        docket.file(0, ("ruling", 1, 0, 0, "0", ()))
        self.assertExact(docket.cases[2][11][0][3][0], ("1", False, (0, True), False))
        self.assertExact(docket.file(0, one), (None, (3, 2)))
        self.assertExact(docket.cases[3][11][0][3][0], ("0", False, (0, False), False))


class Transfers(DocketCase):

    def test_fees(self):
        docket = self.docket((0, COMPLAINT), (0, LAW))
        self.assertExact(docket.transfers, ((1, None, 1), (3, None, 1)))
        docket = self.docket(
            (0, COMPLAINT), (0, ("ruling", 0, 0, 0, "0", ())), (1, ("appeal", 0, "claimant", ((0, 0),))))
        self.assertExact(docket.transfers, ((1, None, 1), (1, None, 5)))
        docket = self.docket(
            (0, COMPLAINT), (0, ("ruling", 0, 0, 0, "1", ())), (0, ("ruling", 0, 0, 1, "1", ())),
            (0, ("ruling", 0, 0, 3, "0", ())), (1, ("appeal", 0, "respondent", ((0, 0),))))
        self.assertExact(docket.transfers, ((1, None, 1), (2, None, 5)))

    def test_fees_of_0_are_listed(self):
        courts = (HIGH, court(MIDDLE, fee=0), court(LOW, fee=0))
        config = config_of("a", courts=courts)
        docket = self.docket(
            (0, COMPLAINT), (0, ("ruling", 0, 0, 0, "1", ())), (0, ("appeal", 0, "respondent", ((0, 0),))),
            config=config)
        self.assertExact(docket.transfers, ((1, None, 0), (2, None, 0)))

    def test_enforcement(self):
        docket = self.docket(
            (0, COMPLAINT),
            (0, ("ruling", 0, 0, 0, "1", ())),
            (0, ("ruling", 0, 0, 1, "1", ())),
            (0, ("ruling", 0, 0, 3, "0", ())),
            (0, ("deposit", 0, 0, 150)),
            (10, ("enforce", 0, 0)),
            (10, ("appeal", 0, "respondent", ((0, 0),))),
            (10, ("hearing", 0)),
            (10, ("ruling", 0, 0, 0, "000", ())),
            (10, ("restitute", 0, 0)),
            (10, ("release", 0, 0)),
        )
        self.assertExact(docket.transfers, (
            (1, None, 1), (1, None, 150), (2, 1, 100), (2, None, 5), (None, 2, 100), (None, 1, 50),
        ))

    def test_rejected_filings_transfer_nothing(self):
        docket = self.docket((0, COMPLAINT))
        for filing in (
            ("deposit", 0, 7, 10), ("enforce", 0, 0), ("restitute", 0, 0), ("release", 0, 0),
            ("appeal", 0, "respondent", ((0, 0),)), ("deposit", 3, 0, 10), COMPLAINT[:3] + (1, 1, ((0, 1),)),
        ):
            self.assertNotEqual(docket.file(0, filing)[0], None)
        self.assertExact(docket.transfers, ((1, None, 1),))


class Rehearsals(DocketCase):

    FILINGS = ((3, ("answer", 0)), (3, ("answer", 0)), (4, COMPLAINT), (4, ("answer", 1)), (9, ("hearing", 5)))

    def test_what_filing_would_return(self):
        docket = self.docket((2, COMPLAINT))
        before = state_of(docket)
        told = docket.rehearse(self.FILINGS)
        self.assertExact(told, (
            (None, ()), ("answered", ()), (None, (1, 2)), (None, ()), ("no case", ()),
        ))
        self.assertExact(state_of(docket), before)
        self.assertExact(docket.rehearse(self.FILINGS), told)
        self.assertExact(tuple(docket.file(*pair) for pair in self.FILINGS), told)

    def test_nothing(self):
        self.assertExact(Docket(CONFIG).rehearse(()), ())

    def test_days_that_fall(self):
        docket = self.docket((2, COMPLAINT))
        before = state_of(docket)
        for filings in (
            ((1, ("answer", 0)),),
            ((3, ("answer", 0)), (2, ("heartbeat",))),
            ((2, ("answer", 0)), (2, ("heartbeat",)), (7, ("heartbeat",)), (6, ("heartbeat",))),
        ):
            with self.assertRaises(DayPassed):
                docket.rehearse(filings)
            self.assertExact(state_of(docket), before)
        self.assertExact(docket.rehearse(((2, ("heartbeat",)),)), ((None, ()),))


class Undoing(DocketCase):

    PAIRS = (
        (0, COMPLAINT), (1, ("answer", 0)), (2, ("answer", 0)), (3, ("ruling", 0, 0, 2, "1", ())),
        (4, ("deposit", 0, 0, 10)), (4, ("hearing", 9)), (5, COMPLAINT),
    )

    def docket_of(self, many):
        docket = Docket(CONFIG)
        for day, filing in self.PAIRS[:many]:
            docket.file(day, filing)
        return docket

    def test_some(self):
        for many in range(len(self.PAIRS) + 1):
            docket = self.docket_of(len(self.PAIRS))
            kept = len(self.PAIRS) - many
            self.assertExact(docket.undo(many), self.PAIRS[kept:])
            self.assertExact(state_of(docket), state_of(self.docket_of(kept)))
            # What comes behind is the same, too.
            for day, filing in self.PAIRS[kept:]:
                docket.file(day, filing)
            self.assertExact(state_of(docket), state_of(self.docket_of(len(self.PAIRS))))

    def test_one_by_default(self):
        docket = self.docket_of(len(self.PAIRS))
        for kept in range(len(self.PAIRS) - 1, -1, -1):
            self.assertExact(docket.undo(), self.PAIRS[kept:kept + 1])
            self.assertExact(state_of(docket), state_of(self.docket_of(kept)))
        self.assertExact(state_of(docket), EMPTY)

    def test_by_name(self):
        self.assertExact(self.docket_of(7).undo(many=2), self.PAIRS[5:])

    def test_none(self):
        self.assertExact(Docket(CONFIG).undo(0), ())
        docket = self.docket_of(3)
        self.assertExact(docket.undo(0), ())
        self.assertExact(state_of(docket), state_of(self.docket_of(3)))

    def test_one_more_than_all(self):
        for kept in (0, 3, 7):
            for many in (kept + 1, 99):
                docket = self.docket_of(kept)
                with self.assertRaises(NothingToUndo):
                    docket.undo(many)
                self.assertExact(state_of(docket), state_of(self.docket_of(kept)))
        with self.assertRaises(NothingToUndo):
            Docket(CONFIG).undo()

    def test_an_earlier_day_is_possible_again(self):
        docket = self.docket_of(7)
        docket.undo(2)
        self.assertExact(docket.day, 4)
        docket.undo(4)
        self.assertExact(docket.file(0, ("heartbeat",)), (None, ()))


class Clones(DocketCase):

    def test_the_same_state_and_independent_both_ways(self):
        docket = self.docket((0, COMPLAINT), (1, ("answer", 0)))
        other = docket.clone()
        self.assertIsInstance(other, Docket)
        self.assertIsNot(other, docket)
        self.assertExact((state_of(other), other.config), (state_of(docket), docket.config))
        before = state_of(docket)
        other.file(4, COMPLAINT)
        other.file(4, ("ruling", 0, 0, 2, "1", ()))
        self.assertExact(state_of(docket), before)
        changed = state_of(other)
        docket.file(2, ("deposit", 0, 0, 5))
        docket.undo(3)
        self.assertExact(state_of(other), changed)
        log = ((0, COMPLAINT), (1, ("answer", 0)), (4, COMPLAINT), (4, ("ruling", 0, 0, 2, "1", ())))
        self.assertExact(other.undo(4), log)
        self.assertExact(state_of(docket), EMPTY)


class Replaying(DocketCase):

    def test_from_pairs(self):
        pairs = Undoing.PAIRS
        docket = Docket.replayed(CONFIG, pairs)
        self.assertIsInstance(docket, Docket)
        self.assertExact(docket.log, pairs)
        self.assertExact(state_of(Docket.replayed(CONFIG, ())), EMPTY)
        self.assertExact(docket.config, CONFIG)

    def test_days_that_fall(self):
        for pairs in (((1, COMPLAINT), (0, ("answer", 0))), ((0, COMPLAINT), (5, COMPLAINT), (4, ("heartbeat",)))):
            with self.assertRaises(DayPassed):
                Docket.replayed(CONFIG, pairs)
        self.assertExact(Docket.replayed(CONFIG, ((3, COMPLAINT), (3, COMPLAINT))).day, 3)

    def test_drawn_logs(self):
        draw = random.Random(234)
        for _ in range(60):
            config = draw_config(draw)
            docket = draw_docket(draw, config, draw.randint(0, 70))
            again = Docket.replayed(config, docket.log)
            self.assertExact(state_of(again), state_of(docket))
            many = draw.randint(0, len(docket.log))
            undone = docket.undo(many)
            self.assertExact(docket.log + undone, again.log)
            self.assertExact(state_of(docket), state_of(Docket.replayed(config, docket.log)))


class Drawn(DocketCase):

    def test_filings_by_definition(self):
        draw = random.Random(230)
        recorded = 0
        for _ in range(60):
            config = draw_config(draw)
            docket = Docket(config)
            transfers, log = [], []
            for _ in range(40):
                day = draw_day(draw, docket.day)
                cases, precedents = docket.cases, docket.precedents
                filing = draw_any_filing(draw, config, cases, day)
                told = docket.file(day, filing)
                log.append((day, filing))
                if filing[0] == "heartbeat":
                    expected, behind = (None, ()), cases
                elif filing[0] == "complaint":
                    *expected, case = opened(config, precedents, len(cases), day, filing)
                    behind = cases if case is None else cases + (case,)
                elif filing[1] >= len(cases):
                    expected, behind = ("no case", ()), cases
                else:
                    *expected, case = processed(config, cases[filing[1]], day, filing)
                    behind = cases[:filing[1]] + (case,) + cases[filing[1] + 1:]
                self.assertExact(told, tuple(expected))
                self.assertExact(docket.cases, behind)
                if told[0] is None:
                    transfers += self.transfers(config, behind, filing, told[1])
                self.assertExact((docket.transfers, docket.log), (tuple(transfers), tuple(log)))
                if filing[0] == "ruling" and told[0] is None:
                    self.check_precedent(config, cases[filing[1]], filing, told[1], precedents, docket.precedents)
                    recorded += docket.precedents != precedents
                else:
                    self.assertExact(docket.precedents, precedents)
        self.assertGreater(recorded, 30)

    def transfers(self, config, cases, filing, numbers):
        """Return the transfers of an accepted filing."""
        if filing[0] == "heartbeat":
            return []
        claimant, respondent = (cases[-1] if filing[0] == "complaint" else cases[filing[1]])[4]
        amount = numbers[0] if numbers else None
        court_number = numbers[-1] if filing[0] in ("complaint", "appeal") else None
        fee = None if court_number is None else config[3][court_number][7]
        return {
            "complaint": [(claimant, None, fee)],
            "appeal": [(claimant if filing[2] == "claimant" else respondent, None, fee)] if len(filing) > 2 else [],
            "deposit": [(claimant, None, amount)],
            "enforce": [(respondent, claimant, amount)],
            "restitute": [(None, respondent, amount)],
            "release": [(None, claimant, amount)],
        }.get(filing[0], [])

    def check_precedent(self, config, case, filing, numbers, before, behind):
        _, number, claim, issue, _, tags = filing
        cause = case[11][claim][0]
        leaf = leaves(config[4][cause])[issue]
        if not leaf[2]:
            self.assertExact(behind, before)
            return
        level = case[12] if case[13][1] else 0
        new = (number, claim, issue, cause, case[5][level], numbers == (1,), tags)
        kept = tuple(one for one in before if one[:3] != (number, claim, issue))
        self.assertExact(behind, kept + (new,))


def leaves(cause):
    """Return the issues of a cause, as they stand in it."""
    if cause[0] == "issue":
        return [cause]
    return leaves(cause[1]) + leaves(cause[2])


if __name__ == "__main__":
    unittest.main()
