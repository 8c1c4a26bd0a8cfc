"""Point 224: appeals, waivers and hearings."""

import unittest

from casemodel import BOTH
from filingcase import FilingCase
from rooms import (
    HIGH, LOW, MIDDLE, case_as, changed, claim_as, config_of, court, deliberating, judged,
)

# The respondent has lost the first claim, the claimant the second one.
CLAIMS = (claim_as("11?0"), claim_as("0??1"))
CASE = case_as(*CLAIMS, number=1, fees=(1, 0), stage=judged(5))
OPEN = case_as(claim_as("1??0"), number=1, stage=deliberating())
HEARD = case_as(claim_as("11?0"), number=1, level=1, stage=deliberating((0, 0)))


def stage(named=(None, None), first=None, attempts=((), ())):
    return {"stage": judged(5, attempts, named, first)}


class Appeals(FilingCase):

    def test_the_issues_are_named_in_this_order(self):
        for pairs in (((0, 0),), ((0, 3), (0, 0)), ((0, 1), (0, 0), (0, 3))):
            parts = {**stage((None, pairs), 7), "fees": (1, 5)}
            self.accepted((1,), parts, CASE, 7, "appeal", "respondent", pairs)
        for pairs in (((1, 0),), ((1, 3), (1, 0))):
            parts = {**stage((pairs, None), 7), "fees": (6, 0)}
            self.accepted((1,), parts, CASE, 7, "appeal", "claimant", pairs)

    def test_only_the_first_appeal_is_the_first(self):
        case = changed(CASE, **stage((None, ((0, 0),)), 6), fees=(1, 5))
        parts = {**stage((((1, 0),), ((0, 0),)), 6), "fees": (6, 5)}
        self.accepted((1,), parts, case, 9, "appeal", "claimant", ((1, 0),))
        zero = case_as(*CLAIMS, number=1, stage=judged(0, named=(None, ((0, 0),)), first_appeal=0))
        parts = {"stage": judged(0, named=(((1, 0),), ((0, 0),)), first_appeal=0), "fees": (6, 0)}
        self.accepted((1,), parts, zero, 3, "appeal", "claimant", ((1, 0),))

    def test_behind_a_waiver_of_the_opponent(self):
        case = changed(CASE, **stage(((), None)))
        parts = {**stage(((), ((0, 0),)), 8), "fees": (1, 5)}
        self.accepted((1,), parts, case, 8, "appeal", "respondent", ((0, 0),))

    def test_the_fee_and_the_number_of_the_court_at_the_next_level(self):
        courts = (court(HIGH, fee=70), LOW, court(MIDDLE, fee=0), court(LOW, superior=2))
        courts = (courts[0], court(courts[1], superior=0), courts[2], courts[3])
        config = config_of("(a! or b)", courts=courts)
        case = case_as(claim_as("11"), chain=(3, 2, 0), fees=(1, 2), stage=judged(5))
        parts = {**stage((None, ((0, 0),)), 6), "fees": (1, 2)}
        self.accepted((2,), parts, case, 6, "appeal", "respondent", ((0, 0),), config=config)
        above = changed(case, level=1)
        parts = {**stage((None, ((0, 0),)), 6), "fees": (1, 72)}
        self.accepted((0,), parts, above, 6, "appeal", "respondent", ((0, 0),), config=config)

    def test_not_judged(self):
        for case in (OPEN, HEARD, changed(HEARD, level=2, stage=deliberating(), claims=(claim_as("1??0"),))):
            for pairs in ((), ((0, 0),), ((0, 0), (0, 0)), ((9, 9),)):
                self.rejected("not judged", case, 6, "appeal", "respondent", pairs)

    def test_no_superior(self):
        for parts in ({"level": 2}, {"chain": (0,)}, {"level": 1, "chain": (1, 0)}):
            for party in BOTH:
                for day in (6, 99):
                    self.rejected("no superior", changed(CASE, **parts), day, "appeal", party, ())

    def test_named(self):
        case = changed(CASE, **stage(((), ((0, 0),)), 6))
        for party in BOTH:
            for day in (6, 99):
                for pairs in ((), ((0, 1),), ((1, 0),), ((0, 0), (0, 0))):
                    self.rejected("named", case, day, "appeal", party, pairs)

    def test_not_lost(self):
        for day in (6, 99):
            for pairs in ((), ((0, 0),), ((0, 0), (0, 0))):
                one = changed(CASE, claims=CLAIMS[:1])
                self.rejected("not lost", one, day, "appeal", "claimant", pairs)
                other = changed(CASE, claims=CLAIMS[1:])
                self.rejected("not lost", other, day, "appeal", "respondent", pairs)

    def test_expired(self):
        parts = {**stage((None, ((0, 0),)), 35), "fees": (1, 5)}
        self.accepted((1,), parts, CASE, 35, "appeal", "respondent", ((0, 0),))
        for pairs in ((), ((0, 0),), ((0, 0), (0, 0)), ((9, 9),)):
            self.rejected("expired", CASE, 36, "appeal", "respondent", pairs)
        served = changed(CASE, **stage(attempts=((), ((6, "hand", False),))))
        parts = {**stage((None, ((0, 0),)), 20, ((), ((6, "hand", False),))), "fees": (1, 5)}
        self.accepted((1,), parts, served, 20, "appeal", "respondent", ((0, 0),))
        self.rejected("expired", served, 21, "appeal", "respondent", ((0, 0),))

    def test_the_cross_appeal_term(self):
        attempts = (((6, "hand", False),), ((6, "hand", False),))
        case = changed(CASE, **stage((None, ((0, 0),)), 18, attempts))
        parts = {**stage((((1, 0),), ((0, 0),)), 18, attempts), "fees": (6, 0)}
        self.accepted((1,), parts, case, 25, "appeal", "claimant", ((1, 0),))
        self.rejected("expired", case, 26, "appeal", "claimant", ((1, 0),))

    def test_empty(self):
        self.rejected("empty", CASE, 6, "appeal", "respondent", ())
        nothing = changed(CASE, claims=(claim_as("11?0", barred=(0, 1, 3)),))
        self.rejected("empty", nothing, 6, "appeal", "respondent", ())

    def test_twice(self):
        for pairs in (((0, 0), (0, 0)), ((0, 0), (0, 1), (0, 0)), ((9, 9), (9, 9)), ((0, 2), (0, 2), (0, 0))):
            self.rejected("twice", CASE, 6, "appeal", "respondent", pairs)

    def test_cannot(self):
        for pair in ((0, 2), (1, 0), (1, 3), (0, 4), (2, 0), (9, 9)):
            self.rejected("cannot", CASE, 6, "appeal", "respondent", (pair,))
            self.rejected("cannot", CASE, 6, "appeal", "respondent", ((0, 0), pair, (0, 1)))
        barred = changed(CASE, claims=(claim_as("11?0", barred=(0,)),))
        self.rejected("cannot", barred, 6, "appeal", "respondent", ((0, 0),))
        above = changed(CASE, level=1)
        self.rejected("cannot", above, 6, "appeal", "respondent", ((0, 0),))


class Waivers(FilingCase):

    def test_either_party(self):
        self.accepted((), stage(((), None)), CASE, 6, "waive", "claimant")
        self.accepted((), stage((None, ())), CASE, 6, "waive", "respondent")

    def test_also_late_or_without_a_claim_that_it_has_lost(self):
        self.accepted((), stage((None, ())), CASE, 300, "waive", "respondent")
        one = changed(CASE, claims=CLAIMS[:1])
        self.accepted((), stage(((), None)), one, 6, "waive", "claimant")

    def test_behind_an_appeal_of_the_opponent(self):
        case = changed(CASE, **stage((None, ((0, 0),)), 6))
        self.accepted((), stage(((), ((0, 0),)), 6), case, 9, "waive", "claimant")

    def test_rejections(self):
        for party in BOTH:
            for case in (OPEN, HEARD):
                self.rejected("not judged", case, 6, "waive", party)
            self.rejected("no superior", changed(CASE, level=2), 6, "waive", party)
            self.rejected("no superior", changed(CASE, chain=(0,)), 6, "waive", party)
        case = changed(CASE, **stage(((), ((0, 0),)), 6))
        for party in BOTH:
            self.rejected("named", case, 9, "waive", party)


class Hearings(FilingCase):

    def test_what_is_adverse_and_not_named_is_barred(self):
        case = changed(CASE, **stage((((1, 3),), ((0, 3), (0, 0))), 6))
        parts = {
            "claims": (claim_as("11?0", barred=(1,)), claim_as("0??1", barred=(0,))),
            "level": 1,
            "stage": deliberating((0, 0), (0, 3), (1, 3)),
        }
        self.accepted((3,), parts, case, 6, "hearing")

    def test_behind_a_waiver_all_is_barred(self):
        case = changed(CASE, **stage(((), ((0, 0),)), 6))
        parts = {
            "claims": (claim_as("11?0", barred=(1, 3)), claim_as("0??1", barred=(0, 3))),
            "level": 1,
            "stage": deliberating((0, 0)),
        }
        self.accepted((1,), parts, case, 6, "hearing")

    def test_what_is_not_adverse_is_not_barred(self):
        claims = (claim_as("1111", barred=(2,)), claim_as("1000"))
        case = case_as(*claims, stage=judged(5, named=(((0, 3),), None), first_appeal=6))
        # The respondent has won the first claim and lost nothing else by these findings.
        parts = {
            "claims": (claims[0], claim_as("1000", barred=(1, 2))),
            "level": 1,
            "stage": deliberating((0, 3)),
        }
        self.accepted((1,), parts, case, 6, "hearing")

    def test_the_next_hearing(self):
        case = case_as(claim_as("1110"), level=1, stage=judged(9, named=(None, ((0, 2),)), first_appeal=10))
        parts = {
            "claims": (claim_as("1110", barred=(0, 1, 3)),),
            "level": 2,
            "stage": deliberating((0, 2)),
        }
        self.accepted((1,), parts, case, 10, "hearing")

    def test_what_the_next_court_does_not_review_is_barred_too(self):
        config = config_of("(a! or b)", courts=(HIGH, court(MIDDLE, facts=False), LOW))
        case = case_as(claim_as("11"), claim_as("11"), stage=judged(5, named=(None, ((1, 0),)), first_appeal=6))
        parts = {
            "claims": (claim_as("11", barred=(0, 1)), claim_as("11", barred=(1,))),
            "level": 1,
            "stage": deliberating((1, 0)),
        }
        self.accepted((1,), parts, case, 6, "hearing", config=config)

    def test_not_judged(self):
        for case in (OPEN, HEARD):
            for day in (6, 300):
                self.rejected("not judged", case, day, "hearing")

    def test_no_appeal(self):
        for named in ((None, None), ((), ()), (None, ())):
            for day in (6, 300):
                self.rejected("no appeal", changed(CASE, **stage(named)), day, "hearing")
        self.rejected("no appeal", changed(CASE, level=2), 300, "hearing")

    def test_both_parties_are_done(self):
        case = changed(CASE, **stage((None, ((0, 0),)), 6))
        for day in (6, 35):
            self.rejected("not expired", case, day, "hearing")
        parts = {
            "claims": (claim_as("11?0", barred=(1, 3)), claim_as("0??1", barred=(0, 3))),
            "level": 1,
            "stage": deliberating((0, 0)),
        }
        self.accepted((1,), parts, case, 36, "hearing")
        case = changed(CASE, **stage((((1, 0),), None), 6))
        self.rejected("not expired", case, 35, "hearing")

    def test_a_party_that_has_lost_nothing_or_can_name_nothing_is_done(self):
        one = changed(CASE, claims=CLAIMS[:1], **stage((None, ((0, 0), (0, 1), (0, 3))), 6))
        parts = {"level": 1, "stage": deliberating((0, 0), (0, 1), (0, 3))}
        self.accepted((3,), parts, one, 6, "hearing")
        barred = (claim_as("11?0"), claim_as("0??1", barred=(0, 3)))
        case = changed(CASE, claims=barred, **stage((None, ((0, 0), (0, 1), (0, 3))), 6))
        self.accepted((3,), parts, case, 6, "hearing")


if __name__ == "__main__":
    unittest.main()
