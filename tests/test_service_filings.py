"""Point 221: attempts to serve a complaint or a judgment, and their return."""

import unittest

from casemodel import BOTH
from filingcase import FilingCase
from rooms import case_as, changed, claim_as, config_of, deliberating, judged

LOST = claim_as("11?0")
NEW = case_as(claim_as("1??0"), answered=False, ever_judged=False, stage=deliberating(), number=4)
FOUR = ((1, "hand", True), (2, "post", True), (3, "notice", True), (4, "post", True))


class ServeComplaint(FilingCase):

    def test_each_method_and_its_effect(self):
        for method, effect in (("hand", 2), ("post", 5), ("notice", 16)):
            parts = {"attempts": ((2, method, False),)}
            self.accepted((effect,), parts, NEW, 2, "serve", "respondent", method)

    def test_the_effect_is_on_a_business_day(self):
        config = config_of("((a and (b+ or c!)) unless d)", rules=("0111110", (8,), 7, 30, 3, 14, 10))
        parts = {"attempts": ((5, "post", False),)}
        self.accepted((9,), parts, NEW, 5, "serve", "respondent", "post", config=config)

    def test_behind_the_other_attempts(self):
        case = changed(NEW, attempts=FOUR[:3])
        parts = {"attempts": FOUR[:3] + ((9, "hand", False),)}
        self.accepted((9,), parts, case, 9, "serve", "respondent", "hand")

    def test_only_to_the_respondent(self):
        self.rejected("nothing to serve", NEW, 2, "serve", "claimant", "hand")
        self.rejected("nothing to serve", changed(NEW, attempts=FOUR), 2, "serve", "claimant", "hand")

    def test_not_behind_an_answer_or_at_another_level(self):
        for parts in ({"answered": True}, {"level": 1, "ever_judged": True}):
            for party in BOTH:
                self.rejected("nothing to serve", changed(NEW, **parts), 2, "serve", party, "hand")
                full = changed(NEW, attempts=FOUR, **parts)
                self.rejected("nothing to serve", full, 2, "serve", party, "hand")

    def test_four_attempts_undelivered_ones_included(self):
        self.rejected("many", changed(NEW, attempts=FOUR), 9, "serve", "respondent", "hand")
        delivered = tuple((day, method, False) for day, method, _ in FOUR)
        self.rejected("many", changed(NEW, attempts=delivered), 9, "serve", "respondent", "hand")

    def test_the_complaint_has_no_end(self):
        self.accepted((300,), {"attempts": ((300, "hand", False),)}, NEW, 300, "serve", "respondent", "hand")


class ServeJudgment(FilingCase):

    def case(self, claimant=(), respondent=(), named=(None, None), first=None, **parts):
        claims = (LOST, claim_as("0???"))
        return case_as(*claims, stage=judged(5, (claimant, respondent), named, first), **parts)

    def test_each_party_has_its_own_attempts(self):
        case = self.case(FOUR[:1], FOUR[:2])
        new = (9, "post", False)
        parts = {"stage": judged(5, (FOUR[:1] + (new,), FOUR[:2]))}
        self.accepted((12,), parts, case, 9, "serve", "claimant", "post")
        parts = {"stage": judged(5, (FOUR[:1], FOUR[:2] + (new,)))}
        self.accepted((12,), parts, case, 9, "serve", "respondent", "post")

    def test_those_of_the_complaint_do_not_count(self):
        case = self.case(attempts=FOUR, answered=False)
        parts = {"stage": judged(5, ((), ((9, "hand", False),)))}
        self.accepted((9,), parts, case, 9, "serve", "respondent", "hand")

    def test_what_else_is_told_of_the_judgment_stays(self):
        case = self.case(named=(None, ((0, 0),)), first=6)
        parts = {"stage": judged(5, (((9, "hand", False),), ()), (None, ((0, 0),)), 6)}
        self.accepted((9,), parts, case, 9, "serve", "claimant", "hand")

    def test_no_superior(self):
        for parts in ({"level": 2}, {"chain": (0,)}):
            for party in BOTH:
                self.rejected("no superior", self.case(**parts), 5, "serve", party, "hand")
                self.rejected("no superior", self.case(**parts), 300, "serve", party, "hand")

    def test_named(self):
        case = self.case(FOUR, FOUR, ((), ((0, 0),)), 6)
        for day in (9, 300):
            self.rejected("named", case, day, "serve", "claimant", "hand")
            self.rejected("named", case, day, "serve", "respondent", "hand")

    def test_the_own_period_is_asked(self):
        # Served on day 8, the own period ends on day 22, the cross-appeal term on day 27.
        case = self.case(((8, "hand", False),), (), (None, ((0, 0),)), 20)
        parts = {"stage": judged(5, (((8, "hand", False), (22, "hand", False)), ()), (None, ((0, 0),)), 20)}
        self.accepted((22,), parts, case, 22, "serve", "claimant", "hand")
        for day in (23, 27, 28):
            self.rejected("expired", case, day, "serve", "claimant", "hand")
        # The respondent was not served: its own period ends with the long stop.
        other = self.case(((8, "hand", False),), (), (((1, 0),), None), 20)
        parts = {"stage": judged(5, (((8, "hand", False),), ((35, "hand", False),)), (((1, 0),), None), 20)}
        self.accepted((35,), parts, other, 35, "serve", "respondent", "hand")
        self.rejected("expired", other, 36, "serve", "respondent", "hand")

    def test_four_attempts(self):
        case = self.case(FOUR, FOUR[:3])
        self.rejected("many", case, 9, "serve", "claimant", "hand")
        parts = {"stage": judged(5, (FOUR, FOUR[:3] + ((9, "hand", False),)))}
        self.accepted((9,), parts, case, 9, "serve", "respondent", "hand")
        self.rejected("expired", case, 36, "serve", "claimant", "hand")

    def test_nothing_while_a_court_deliberates_above_level_0(self):
        case = case_as(LOST, level=1, answered=False, stage=deliberating((0, 0)))
        for party in BOTH:
            self.rejected("nothing to serve", case, 5, "serve", party, "hand")


class Undelivered(FilingCase):

    ATTEMPTS = ((5, "post", False), (6, "hand", False), (6, "notice", False), (6, "post", True))

    def test_of_the_complaint(self):
        case = changed(NEW, attempts=self.ATTEMPTS)
        parts = {"attempts": ((5, "post", True),) + self.ATTEMPTS[1:]}
        self.accepted((), parts, case, 7, "undelivered", "respondent", 0)

    def test_of_the_judgment_of_each_party(self):
        case = case_as(LOST, stage=judged(5, (self.ATTEMPTS[:1], self.ATTEMPTS)))
        returned = ((5, "post", True),)
        parts = {"stage": judged(5, (returned, self.ATTEMPTS))}
        self.accepted((), parts, case, 7, "undelivered", "claimant", 0)
        parts = {"stage": judged(5, (self.ATTEMPTS[:1], returned + self.ATTEMPTS[1:]))}
        self.accepted((), parts, case, 7, "undelivered", "respondent", 0)

    def test_another_attempt_than_the_first_one(self):
        attempts = ((6, "post", True), (5, "post", False), (6, "post", False))
        case = changed(NEW, attempts=attempts)
        parts = {"attempts": (attempts[0], (5, "post", True), attempts[2])}
        self.accepted((), parts, case, 6, "undelivered", "respondent", 1)

    def test_nothing_to_serve(self):
        case = changed(NEW, attempts=self.ATTEMPTS)
        self.rejected("nothing to serve", case, 6, "undelivered", "claimant", 0)
        self.rejected("nothing to serve", case, 6, "undelivered", "claimant", 9)
        for parts in ({"answered": True}, {"level": 2, "ever_judged": True}):
            self.rejected("nothing to serve", changed(case, **parts), 6, "undelivered", "respondent", 0)

    def test_unknown(self):
        case = changed(NEW, attempts=self.ATTEMPTS)
        for number in (4, 9):
            self.rejected("unknown", case, 6, "undelivered", "respondent", number)
        self.rejected("unknown", case_as(LOST, attempts=self.ATTEMPTS), 6, "undelivered", "respondent", 0)
        # Without a next level there is a document, but there are no attempts.
        self.rejected("unknown", case_as(LOST, level=2), 6, "undelivered", "claimant", 0)

    def test_not_postal(self):
        case = changed(NEW, attempts=self.ATTEMPTS)
        self.rejected("not postal", case, 6, "undelivered", "respondent", 1)
        self.rejected("not postal", case, 6, "undelivered", "respondent", 2)
        returned = changed(NEW, attempts=((6, "hand", True), (6, "notice", True)))
        self.rejected("not postal", returned, 6, "undelivered", "respondent", 0)
        self.rejected("not postal", returned, 99, "undelivered", "respondent", 1)

    def test_already(self):
        case = changed(NEW, attempts=self.ATTEMPTS)
        for day in (6, 9, 99):
            self.rejected("already", case, day, "undelivered", "respondent", 3)

    def test_until_it_takes_effect(self):
        case = changed(NEW, attempts=self.ATTEMPTS)
        parts = {"attempts": ((5, "post", True),) + self.ATTEMPTS[1:]}
        self.accepted((), parts, case, 7, "undelivered", "respondent", 0)
        for day in (8, 9, 99):
            self.rejected("effect", case, day, "undelivered", "respondent", 0)

    def test_neither_a_period_nor_a_waiver_matters(self):
        attempts = ((50, "post", False),)
        stage = judged(5, (attempts, attempts), ((), ()))
        case = case_as(LOST, stage=stage)
        parts = {"stage": judged(5, (((50, "post", True),), attempts), ((), ()))}
        self.accepted((), parts, case, 52, "undelivered", "claimant", 0)


if __name__ == "__main__":
    unittest.main()
