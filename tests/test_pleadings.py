"""Point 222: answers, admissions, default judgments and oppositions."""

import unittest

from casemodel import BOTH
from filingcase import FilingCase
from rooms import (
    HIGH, LOW, MIDDLE, case_as, changed, claim_as, config_of, court, deliberating, judged,
)

NEW = case_as(claim_as("1??0"), answered=False, ever_judged=False, stage=deliberating(), number=3)
LOST = claim_as("11?0")
SERVED = ((2, "hand", False),)


class Answers(FilingCase):

    def test_the_respondent_has_answered(self):
        self.accepted((), {"answered": True}, NEW, 5, "answer")
        self.accepted((), {"answered": True}, changed(NEW, ever_judged=True), 5, "answer")

    def test_judged(self):
        for answered in (True, False):
            self.rejected("judged", case_as(LOST, answered=answered), 5, "answer")
            self.rejected("judged", case_as(LOST, answered=answered, level=1), 5, "answer")
            heard = case_as(LOST, answered=answered, level=1, stage=deliberating((0, 0)))
            self.rejected("judged", heard, 5, "answer")
            above = case_as(claim_as("1??0"), answered=answered, level=2, stage=deliberating())
            self.rejected("judged", above, 5, "answer")

    def test_answered(self):
        self.rejected("answered", changed(NEW, answered=True), 5, "answer")


class Admissions(FilingCase):

    CASE = changed(NEW, claims=(claim_as("????"), claim_as("1??0")))

    def with_first(self, claim):
        return {"claims": (claim,) + self.CASE[11][1:]}

    def test_an_issue_of_the_opponent(self):
        for issue in (0, 1, 2):
            findings = "".join("1" if place == issue else "?" for place in range(4))
            parts = self.with_first(claim_as(findings, barred=(issue,)))
            self.accepted((), parts, self.CASE, 5, "admit", "respondent", 0, issue)
        parts = self.with_first(claim_as("???1", barred=(3,)))
        case = changed(self.CASE, claims=(claim_as("????"), claim_as("????")))
        parts = {"claims": (claim_as("???1", barred=(3,)), claim_as("????"))}
        self.accepted((), parts, case, 5, "admit", "claimant", 0, 3)

    def test_an_issue_that_is_not_relevant(self):
        case = changed(self.CASE, claims=(claim_as("0???"), claim_as("1??0")))
        parts = {"claims": (claim_as("01??", barred=(1,)), claim_as("1??0"))}
        self.accepted((), parts, case, 5, "admit", "respondent", 0, 1)

    def test_behind_an_answer_and_at_a_higher_level(self):
        parts = self.with_first(claim_as("1???", barred=(0,)))
        self.accepted((), parts, changed(self.CASE, answered=True), 5, "admit", "respondent", 0, 0)
        above = changed(self.CASE, level=1, ever_judged=True, stage=deliberating((1, 0)))
        self.accepted((), parts, above, 5, "admit", "respondent", 0, 0)

    def test_unknown(self):
        for claim, issue in ((0, 4), (0, 9), (1, 4), (2, 0), (9, 9)):
            for party in BOTH:
                self.rejected("unknown", self.CASE, 5, "admit", party, claim, issue)
                self.rejected("unknown", case_as(LOST, LOST), 5, "admit", party, claim, issue)

    def test_judged(self):
        for issue in range(4):
            for party in BOTH:
                self.rejected("judged", case_as(LOST), 5, "admit", party, 0, issue)
                self.rejected("judged", case_as(LOST, level=2), 5, "admit", party, 0, issue)

    def test_decided(self):
        for issue in (0, 3):
            for party in BOTH:
                self.rejected("decided", NEW, 5, "admit", party, 0, issue)

    def test_own_issue(self):
        for issue, party in ((0, "claimant"), (1, "claimant"), (2, "claimant"), (3, "respondent")):
            self.rejected("own issue", self.CASE, 5, "admit", party, 0, issue)

    def test_judgment_is_given(self):
        parts = {
            "claims": (claim_as("1?10", barred=(2,)),),
            "stage": judged(6),
            "ever_judged": True,
        }
        self.accepted((), parts, NEW, 6, "admit", "respondent", 0, 2)


class Defaults(FilingCase):

    CASE = changed(NEW, attempts=SERVED)

    def behind(self, day, *claims):
        return {"claims": claims, "stage": judged(day), "ever_judged": True}

    def test_the_day_behind_the_end_of_the_term(self):
        self.rejected("not expired", self.CASE, 11, "default")
        self.rejected("not expired", self.CASE, 12, "default")
        behind = self.behind(13, claim_as("1110", by_default=(1, 2)))
        self.accepted((), behind, self.CASE, 13, "default")

    def test_the_term_is_one_of_calendar_days_with_the_stays(self):
        config = config_of("((a and (b+ or c!)) unless d)", rules=("0111110", (), 7, 30, 3, 14, 10))
        # Day 12 is a Friday; the stayed day 9 moves the end to a Saturday, and so to day 15.
        self.rejected("not expired", self.CASE, 12, "default", config=config)
        behind = self.behind(13, claim_as("1110", by_default=(1, 2)))
        self.accepted((), behind, self.CASE, 13, "default", config=config)
        stayed = changed(self.CASE, stays=((9, 9),))
        self.rejected("not expired", stayed, 15, "default", config=config)
        behind = self.behind(16, claim_as("1110", by_default=(1, 2)))
        self.accepted((), behind, stayed, 16, "default", config=config)

    def test_the_respondent_is_not_served(self):
        for attempts in ((), ((2, "hand", True), (3, "post", True))):
            self.rejected("not expired", changed(NEW, attempts=attempts), 300, "default")

    def test_every_undetermined_issue_of_every_claim(self):
        claims = (claim_as("????"), claim_as("0???"), claim_as("?1?1", barred=(1,)))
        behind = self.behind(
            20,
            claim_as("1110", by_default=(0, 1, 2, 3)),
            claim_as("0110", by_default=(1, 2, 3)),
            claim_as("1111", barred=(1,), by_default=(0, 2)),
        )
        self.accepted((), behind, changed(self.CASE, claims=claims), 20, "default")

    def test_decided_issues_stay_as_they_are(self):
        claims = (claim_as("1?00", bindings={2: (2, False)}, barred=(3,)),)
        behind = self.behind(20, claim_as("1100", bindings={2: (2, False)}, barred=(3,), by_default=(1,)))
        self.accepted((), behind, changed(self.CASE, claims=claims), 20, "default")

    def test_judged_and_answered(self):
        for parts in ({"answered": True}, {"answered": False}):
            self.rejected("judged", case_as(LOST, attempts=SERVED, **parts), 20, "default")
            self.rejected("judged", case_as(LOST, level=1, **parts), 20, "default")
            above = case_as(claim_as("1??0"), level=1, stage=deliberating(), attempts=SERVED, **parts)
            self.rejected("judged", above, 20, "default")
        for attempts in (SERVED, ()):
            self.rejected("answered", changed(NEW, answered=True, attempts=attempts), 20, "default")


class Oppositions(FilingCase):

    DEFAULT = claim_as("1110", by_default=(1, 2, 3))

    def case(self, *claims, named=(None, None), first=None, attempts=((), ()), **parts):
        claims = claims or (self.DEFAULT,)
        parts = {"answered": False, **parts}
        return case_as(*claims, stage=judged(5, attempts, named, first), number=2, **parts)

    def opened(self, *claims):
        return {"claims": claims, "answered": True, "stage": deliberating()}

    def test_what_was_decided_by_default_is_undetermined(self):
        behind = self.opened(claim_as("1???"))
        self.accepted((), behind, self.case(), 5, "oppose")
        self.accepted((), behind, self.case(), 35, "oppose")

    def test_what_was_decided_otherwise_stays(self):
        bound = claim_as("1110", bindings={2: (0, True)})
        claims = (claim_as("1010", by_default=(2,), barred=(1,)), claim_as("0???"), bound)
        behind = self.opened(claim_as("10?0", barred=(1,)), claim_as("0???"), bound)
        self.accepted((), behind, self.case(*claims), 5, "oppose")

    def test_judgment_is_given_if_every_claim_is_decided_still(self):
        case = self.case(claim_as("1110", by_default=(2,)))
        parts = {"claims": (claim_as("11?0"),), "answered": True, "stage": judged(9)}
        self.accepted((), parts, case, 9, "oppose")

    def test_without_a_next_level(self):
        self.accepted((), self.opened(claim_as("1???")), self.case(chain=(0,)), 35, "oppose")

    def test_no_default(self):
        for case in (
            case_as(LOST),
            changed(NEW, claims=(claim_as("1??0"),)),
            self.case(level=1),
            self.case(level=2),
            case_as(self.DEFAULT, level=1, stage=deliberating((0, 1))),
            case_as(LOST, stage=judged(0, named=(None, ()))),
        ):
            self.rejected("no default", case, 5, "oppose")
            self.rejected("no default", case, 300, "oppose")

    def test_named(self):
        for named, first in (((None, ()), None), ((None, ((0, 0),)), 6), (((), ()), None)):
            for day in (6, 300):
                self.rejected("named", self.case(named=named, first=first), day, "oppose")

    def test_expired(self):
        self.rejected("expired", self.case(), 36, "oppose")
        served = self.case(attempts=((), ((6, "hand", False),)))
        self.accepted((), self.opened(claim_as("1???")), served, 20, "oppose")
        self.rejected("expired", served, 21, "oppose")
        # The cross-appeal term of an appeal of the claimant counts, too.
        claims = (self.DEFAULT, claim_as("0???"))
        late = self.case(*claims, attempts=((), ((6, "hand", False),)), named=(((1, 0),), None), first=20)
        self.accepted((), self.opened(claim_as("1???"), claims[1]), late, 27, "oppose")
        self.rejected("expired", late, 28, "oppose")


class BarringByOppositions(FilingCase):

    # The claimant has lost the second claim by issue a.
    CLAIMS = (claim_as("1110", by_default=(1, 2)), claim_as("0??1"))

    def check(self, second, named=(None, None), first=None, day=6, attempts=((), ()), claims=None):
        case = case_as(*(claims or self.CLAIMS), answered=False, stage=judged(5, attempts, named, first))
        parts = {"answered": True, "stage": deliberating(), "claims": (claim_as("1??0"), second)}
        self.accepted((), parts, case, day, "oppose")

    def test_nothing_if_the_claimant_may_still_appeal(self):
        self.check(claim_as("0??1"))
        self.check(claim_as("0??1"), day=35)

    def test_behind_a_waiver_of_the_claimant(self):
        self.check(claim_as("0??1", barred=(0, 3)), named=((), None))

    def test_behind_an_appeal_of_the_claimant(self):
        self.check(claim_as("0??1", barred=(0,)), named=(((1, 3),), None), first=6)
        self.check(claim_as("0??1", barred=(3,)), named=(((1, 0),), None), first=6)
        self.check(claim_as("0??1"), named=(((1, 3), (1, 0)), None), first=6)

    def test_if_the_claimant_is_not_in_time(self):
        attempts = (((6, "hand", False),), ())
        self.check(claim_as("0??1"), day=20, attempts=attempts)
        self.check(claim_as("0??1", barred=(0, 3)), day=21, attempts=attempts)

    def test_only_what_is_adverse_to_the_claimant(self):
        claims = (self.CLAIMS[0], claim_as("0111", barred=(3,), by_default=(1,)))
        self.check(claim_as("0?11", barred=(0, 3)), named=((), None), claims=claims)

    def test_what_no_court_reviews_is_barred_too(self):
        courts = (HIGH, court(MIDDLE, facts=False), LOW)
        config = config_of("((a and (b+ or c!)) unless d)", courts=courts)
        case = case_as(*self.CLAIMS, stage=judged(5, named=((), None)))
        parts = {"stage": deliberating(), "claims": (claim_as("1??0"), claim_as("0??1", barred=(0, 3)))}
        self.accepted((), parts, case, 6, "oppose", config=config)


if __name__ == "__main__":
    unittest.main()
