"""Points 204, 205 and 206: periods of the parties, open appeals, open oppositions."""

import unittest

from casedraw import sound_cases
from casemodel import BOTH, Model
from exact import ExactCase
from overturn.standing import (
    is_done, may_appeal, may_be_opposed, may_still_appeal, may_still_be_opposed, periods_of,
)
from rooms import (
    HIGH, LOW, MIDDLE, RULES, case_as, changed, claim_as, config_of, court, deliberating, judged,
)

CONFIG = config_of("((a and (b+ or c!)) unless d)")
WORKDAYS = ("0111110",) + RULES[1:]
# Lost by the respondent.
LOST = claim_as("11?0")
HAND = (8, "hand", False)


def in_time_until(config, case, party):
    """Return the greatest day on which the party may appeal."""
    days = [day for day in range(200) if may_appeal(config, case, day, party)]
    assert days == list(range(len(days)))
    return len(days) - 1


class Periods(ExactCase):

    def test_none_while_a_court_deliberates(self):
        for case in (
            case_as(claim_as("1??0"), stage=deliberating()),
            case_as(LOST, level=1, stage=deliberating((0, 0))),
            case_as(claim_as("1??0"), level=2, stage=deliberating()),
        ):
            self.assertExact(periods_of(CONFIG, case), None)

    def test_each_party_has_its_own_attempts(self):
        case = case_as(LOST, stage=judged(5, ((HAND,), ())))
        self.assertExact(periods_of(CONFIG, case), ((22, 22), (35, 35)))
        case = case_as(LOST, stage=judged(5, ((), (HAND,))))
        self.assertExact(periods_of(CONFIG, case), ((35, 35), (22, 22)))
        returned = ((6, "post", True), (9, "hand", False), (7, "hand", False))
        case = case_as(LOST, stage=judged(5, (((6, "post", True),), returned)))
        self.assertExact(periods_of(CONFIG, case), ((35, 35), (21, 21)))

    def test_attempts_to_serve_the_complaint_do_not_matter(self):
        case = case_as(LOST, attempts=(HAND,), stage=judged(5))
        self.assertExact(periods_of(CONFIG, case), ((35, 35), (35, 35)))

    def test_the_first_appeal_counts_for_both(self):
        for named in (((), ((0, 0),)), (None, ((0, 0),))):
            case = case_as(LOST, stage=judged(5, ((HAND,), (HAND,)), named, 20))
            self.assertExact(periods_of(CONFIG, case), ((22, 27), (22, 27)))
            case = case_as(LOST, stage=judged(5, ((HAND,), (HAND,)), named, 15))
            self.assertExact(periods_of(CONFIG, case), ((22, 22), (22, 22)))
            case = case_as(LOST, stage=judged(5, ((HAND,), (HAND,)), named, 16))
            self.assertExact(periods_of(CONFIG, case), ((22, 23), (22, 23)))

    def test_the_stays_of_the_case(self):
        case = case_as(LOST, stays=((10, 11), (23, 24)), stage=judged(5, ((HAND,), ()), (None, ((0, 0),)), 20))
        self.assertExact(periods_of(CONFIG, case), ((26, 29), (35, 35)))

    def test_the_term_of_the_court_at_the_next_level(self):
        courts = (court(HIGH, days=3), court(MIDDLE, days=5, business_days=True), court(LOW, days=9))
        config = config_of("(a and b)", courts=courts, rules=WORKDAYS)
        case = case_as(claim_as("11"), stage=judged(5, ((HAND,), (HAND,))))
        self.assertExact(periods_of(config, case), ((15, 15), (15, 15)))
        self.assertExact(periods_of(config, changed(case, level=1)), ((11, 11), (11, 11)))
        # Five days of the kind "calendar" end on day 13, a Saturday, and so on the Monday behind it.
        kind = config_of("(a and b)", courts=(court(HIGH, days=5), MIDDLE, LOW), rules=WORKDAYS)
        self.assertExact(periods_of(kind, changed(case, level=1)), ((15, 15), (15, 15)))

    def test_business_days_and_calendar_days(self):
        for business_days, end in ((True, 22), (False, 18)):
            courts = (HIGH, court(MIDDLE, days=10, business_days=business_days), LOW)
            config = config_of("(a and b)", courts=courts, rules=WORKDAYS)
            case = case_as(claim_as("11"), stage=judged(5, ((HAND,), ())))
            self.assertExact(periods_of(config, case), ((end, end), (35, 35)))

    def test_without_a_next_level(self):
        for parts in ({"level": 2}, {"level": 1, "chain": (1, 0)}, {"chain": (0,)}):
            case = case_as(LOST, stage=judged(7), stays=((30, 50),), **parts)
            self.assertExact(periods_of(CONFIG, case), ((37, 37), (37, 37)))

    def test_by_definition(self):
        for _, config, case, _ in sound_cases(204, 500):
            self.assertExact(periods_of(config, case), Model(config, case).periods(), case)


class Appeals(ExactCase):

    def test_the_last_day_and_the_day_behind_it(self):
        case = case_as(LOST, stage=judged(5, ((), (HAND,))))
        found = [may_appeal(CONFIG, case, day, "respondent") for day in (5, 21, 22, 23, 24)]
        self.assertExact(found, [True, True, True, False, False])
        done = [is_done(CONFIG, case, day, "respondent") for day in (5, 21, 22, 23, 24)]
        self.assertExact(done, [False, False, False, True, True])

    def test_a_cross_appeal_term_that_outlasts_the_own_period(self):
        claims = (LOST, claim_as("0???"))
        case = case_as(*claims, stage=judged(5, ((HAND,), (HAND,)), (None, ((0, 0),)), 20))
        self.assertExact(in_time_until(CONFIG, case, "claimant"), 27)
        without = changed(case, stage=judged(5, ((HAND,), (HAND,))))
        self.assertExact(in_time_until(CONFIG, without, "claimant"), 22)

    def test_what_the_party_has_done(self):
        for named in ((), ((0, 0),)):
            first = 1 if named else None
            case = case_as(LOST, stage=judged(0, named=(None, named), first_appeal=first))
            self.assertExact(may_appeal(CONFIG, case, 1, "respondent"), False)
            self.assertExact(may_still_appeal(CONFIG, case, 1, "respondent"), False)
            self.assertExact(is_done(CONFIG, case, 1, "respondent"), True)

    def test_a_party_that_has_lost_nothing(self):
        case = case_as(LOST)
        self.assertExact(may_appeal(CONFIG, case, 0, "claimant"), False)
        self.assertExact(may_still_appeal(CONFIG, case, 0, "claimant"), False)
        self.assertExact(is_done(CONFIG, case, 0, "claimant"), True)
        both = case_as(LOST, claim_as("0???"))
        for party in BOTH:
            self.assertExact(may_appeal(CONFIG, both, 0, party), True)
            self.assertExact(is_done(CONFIG, both, 0, party), False)

    def test_no_next_level(self):
        case = case_as(LOST, level=2)
        self.assertExact(may_appeal(CONFIG, case, 0, "respondent"), False)
        self.assertExact(may_still_appeal(CONFIG, case, 0, "respondent"), False)
        for party in BOTH:
            self.assertExact(is_done(CONFIG, case, 0, party), True)

    def test_done_is_not_the_opposite_of_an_appeal(self):
        # The respondent can name nothing: it may appeal, and yet nobody has to wait for it.
        case = case_as(claim_as("11?0", barred=(0, 1, 3)))
        self.assertExact(may_appeal(CONFIG, case, 0, "respondent"), True)
        self.assertExact(is_done(CONFIG, case, 0, "respondent"), True)
        facts = case_as(claim_as("11?0"), level=1)
        self.assertExact(may_appeal(CONFIG, facts, 0, "respondent"), True)
        self.assertExact(is_done(CONFIG, facts, 0, "respondent"), True)

    def test_nothing_while_a_court_deliberates(self):
        for case in (
            case_as(LOST, claim_as("????"), stage=deliberating()),
            case_as(LOST, level=1, stage=deliberating((0, 0))),
        ):
            for party in BOTH:
                self.assertExact(may_appeal(CONFIG, case, 0, party), False)
                self.assertExact(may_still_appeal(CONFIG, case, 0, party), False)
                self.assertExact(is_done(CONFIG, case, 0, party), False)


class StillAppeals(ExactCase):
    """The respondent was served on day 0, the claimant later; each has lost a claim."""

    def case(self, claims=None, named=(None, None), first_appeal=None, **parts):
        attempts = (((10, "hand", False),), ((0, "hand", False),))
        claims = claims or (LOST, claim_as("0???"))
        return case_as(*claims, stage=judged(0, attempts, named, first_appeal), **parts)

    def days(self, case, party="respondent", config=CONFIG):
        """Return the last day on which the party may appeal and the last one on which it still may."""
        still = [day for day in range(200) if may_still_appeal(config, case, day, party)]
        self.assertEqual(still, list(range(len(still))))
        return in_time_until(config, case, party), len(still) - 1

    def test_the_opponent_may_reopen_the_period(self):
        self.assertExact(self.days(self.case()), (14, 24))
        self.assertExact(self.days(self.case(), "claimant"), (24, 24))

    def test_there_was_a_first_appeal(self):
        # An appeal of the claimant of day 3 has opened the cross-appeal term up to day 10.
        case = self.case(named=(((1, 0),), None), first_appeal=3)
        self.assertExact(self.days(case), (14, 14))
        case = self.case(named=(((1, 0),), None), first_appeal=9)
        self.assertExact(self.days(case), (16, 16))

    def test_the_opponent_may_not_appeal(self):
        self.assertExact(self.days(self.case(named=((), None))), (14, 14))
        self.assertExact(self.days(self.case(claims=(LOST,))), (14, 14))

    def test_the_opponent_can_name_nothing(self):
        claims = (LOST, claim_as("0???", barred=(0,)))
        self.assertExact(self.days(self.case(claims=claims)), (14, 14))
        # At the next level nothing but law is reviewed, and no more than 50.
        law = (claim_as("1110"), claim_as("1001"))
        self.assertExact(self.days(self.case(claims=law, level=1)), (14, 24))
        small = (claim_as("1110"), claim_as("1001", amount=49))
        self.assertExact(self.days(self.case(claims=small, level=1)), (14, 14))
        fact = (claim_as("1110"), claim_as("1111"))
        self.assertExact(self.days(self.case(claims=fact, level=1)), (14, 14))

    def test_the_party_itself_needs_nothing_to_name(self):
        claims = (claim_as("11?0", barred=(0, 1, 3)), claim_as("0???"))
        self.assertExact(self.days(self.case(claims=claims)), (14, 24))

    def test_the_party_has_waived_or_lost_nothing(self):
        self.assertExact(self.days(self.case(named=(None, ()))), (-1, -1))
        self.assertExact(self.days(self.case(claims=(claim_as("0???"),))), (-1, -1))

    def test_no_next_level(self):
        claims = (LOST, claim_as("0???"))
        self.assertExact(self.days(case_as(*claims, level=2, stage=judged(0))), (-1, -1))


class Oppositions(ExactCase):

    DEFAULTED = claim_as("1110", by_default=(0, 1, 2, 3))

    def days(self, case, config=CONFIG):
        found = [day for day in range(200) if may_be_opposed(config, case, day)]
        still = [day for day in range(200) if may_still_be_opposed(config, case, day)]
        self.assertEqual(found, list(range(len(found))))
        self.assertEqual(still, list(range(len(still))))
        return len(found) - 1, len(still) - 1

    def test_until_the_period_of_the_respondent_ends(self):
        case = case_as(self.DEFAULTED, stage=judged(5, ((), (HAND,))))
        self.assertExact(self.days(case), (22, 22))
        self.assertExact(self.days(changed(case, stage=judged(5))), (35, 35))
        # The period of the claimant does not matter.
        self.assertExact(self.days(changed(case, stage=judged(5, ((HAND,), ())))), (35, 35))

    def test_one_issue_by_default_is_enough(self):
        case = case_as(LOST, claim_as("1110", by_default=(2,)))
        self.assertExact(self.days(case), (30, 30))
        self.assertExact(self.days(case_as(LOST, claim_as("1110"))), (-1, -1))

    def test_without_a_next_level(self):
        case = case_as(self.DEFAULTED, chain=(0,), stage=judged(5))
        self.assertExact(self.days(case), (35, 35))

    def test_not_above_level_0(self):
        for level in (1, 2):
            self.assertExact(self.days(case_as(self.DEFAULTED, level=level)), (-1, -1))

    def test_not_behind_an_appeal_or_a_waiver_of_the_respondent(self):
        for named, first in (((), None), (((0, 0),), 1)):
            case = case_as(self.DEFAULTED, stage=judged(0, named=(None, named), first_appeal=first))
            self.assertExact(self.days(case), (-1, -1))
        # One of the claimant does not matter.
        case = case_as(self.DEFAULTED, stage=judged(0, named=((), None)))
        self.assertExact(self.days(case), (30, 30))

    def test_the_claimant_may_reopen_the_period(self):
        attempts = (((10, "hand", False),), ((0, "hand", False),))
        claims = (self.DEFAULTED, claim_as("0???"))
        case = case_as(*claims, stage=judged(0, attempts))
        self.assertExact(self.days(case), (14, 24))
        self.assertExact(self.days(changed(case, stage=judged(0, attempts, ((), None)))), (14, 14))
        appealed = changed(case, stage=judged(0, attempts, (((1, 0),), None), 1))
        self.assertExact(self.days(appealed), (14, 14))
        self.assertExact(self.days(changed(case, claims=(self.DEFAULTED,))), (14, 14))
        barred = (self.DEFAULTED, claim_as("0???", barred=(0,)))
        self.assertExact(self.days(changed(case, claims=barred)), (14, 14))
        self.assertExact(self.days(changed(case, claims=(LOST, claim_as("0???")))), (-1, -1))
        waived = changed(case, stage=judged(0, attempts, (None, ())))
        self.assertExact(self.days(waived), (-1, -1))
        self.assertExact(self.days(changed(case, level=1)), (-1, -1))
        # Without a next level the claimant cannot appeal.
        self.assertExact(self.days(changed(case, chain=(2,), stage=judged(0)), config=config_of(
            "((a and (b+ or c!)) unless d)", courts=(HIGH, MIDDLE, court(LOW, superior=None)))), (30, 30))

    def test_not_while_a_court_deliberates(self):
        case = case_as(self.DEFAULTED, level=1, stage=deliberating((0, 0)))
        self.assertExact(self.days(case), (-1, -1))
        self.assertExact(self.days(case_as(claim_as("1??0"), stage=deliberating())), (-1, -1))


class Drawn(ExactCase):

    def test_by_definition(self):
        counts = {}
        for _, config, case, start in sound_cases(205, 1500):
            model = Model(config, case)
            for day in (start, start + 2):
                for party in BOTH:
                    found = (
                        may_appeal(config, case, day, party),
                        may_still_appeal(config, case, day, party),
                        is_done(config, case, day, party),
                    )
                    expected = (
                        model.may_appeal(day, party),
                        model.may_still_appeal(day, party),
                        model.is_done(day, party),
                    )
                    self.assertExact(found, expected, (config, case, day, party))
                    counts[found] = counts.get(found, 0) + 1
                found = may_be_opposed(config, case, day), may_still_be_opposed(config, case, day)
                expected = model.may_be_opposed(day), model.may_still_be_opposed(day)
                self.assertExact(found, expected, (config, case, day))
                counts[found] = counts.get(found, 0) + 1
        # Whoever may appeal may still appeal, whoever is late is done; all other combinations occur.
        self.assertEqual(len(counts), 5 + 3, counts)


if __name__ == "__main__":
    unittest.main()
