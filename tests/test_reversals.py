"""Points 210, 211 and 212: costs of issues, reversal costs, final claims, current grounds."""

import unittest

from casedraw import sound_cases
from casemodel import BOTH, Model, is_no_less
from exact import ExactCase
from overturn.costs import assignment_cost
from overturn.grounds import each_ground, supports
from overturn.packings import check_certificate, total_weight
from overturn.reversals import (
    costs_by_level, current_grounds, is_final, issue_costs, reversal_cost,
)
from rooms import (
    HIGH, LOW, MIDDLE, case_as, changed, claim_as, config_of, court, deliberating, judged,
    other_party,
)
from trees import cost_of

TEXT = "((a and (b+ or c!)) unless d)"
CONFIG = config_of(TEXT)
LOST = claim_as("11?0")
LEVELS = (None, 0, 1, 2, 9)


class CostCase(ExactCase):

    def costs(self, case, day=0, config=CONFIG, claim=0, up_to=None):
        """Return the costs of the opposite of each finding, in order; undetermined issues are told as "?"."""
        found = issue_costs(config, case, day, claim, up_to=up_to)
        opposite = []
        for (if_true, if_false), element in zip(found, case[11][claim][3]):
            if element[0] == "?":
                self.assertExact((if_true, if_false), (0, 0))
                opposite.append("?")
            elif element[0] == "1":
                self.assertExact(if_true, 0)
                opposite.append(if_false)
            else:
                self.assertExact(if_false, 0)
                opposite.append(if_true)
        return tuple(opposite)


class IssueCosts(CostCase):

    def test_pairs(self):
        case = case_as(LOST)
        self.assertExact(issue_costs(CONFIG, case, 0, 0), ((0, 2), (0, 2), (0, 0), (2, 0)))
        self.assertExact(issue_costs(CONFIG, case, 0, 0, up_to=None), ((0, 2), (0, 2), (0, 0), (2, 0)))
        self.assertExact(issue_costs(CONFIG, case, 31, 0), ((0, None), (0, None), (0, 0), (None, 0)))

    def test_a_barred_issue(self):
        self.assertExact(self.costs(case_as(claim_as("11?0", barred=(1,)))), (2, None, "?", 2))
        claim = claim_as("1110", barred=(0, 2))
        heard = case_as(claim, level=1, stage=deliberating((0, 1)))
        self.assertExact(self.costs(heard), (None, 2, None, None))

    def test_the_party_may_still_appeal_or_not(self):
        case = case_as(LOST)
        self.assertExact(self.costs(case, 30), (2, 2, "?", 2))
        self.assertExact(self.costs(case, 31), (None, None, "?", None))
        attempts = (((10, "hand", False),), ((0, "hand", False),))
        reopened = case_as(LOST, claim_as("0???"), stage=judged(0, attempts))
        self.assertExact(self.costs(reopened, 24), (2, 2, "?", 2))
        self.assertExact(self.costs(reopened, 25), (None, None, "?", None))

    def test_a_finding_that_favours_a_party_hurts_its_opponent(self):
        # The claim is won by the claimant, which can never appeal; so issue b never becomes true.
        case = case_as(claim_as("1010"))
        self.assertExact(self.costs(case), (2, None, 2, 2))
        # If it has lost another claim it may appeal, although it cannot name this issue.
        case = case_as(claim_as("1010"), claim_as("0???"))
        self.assertExact(self.costs(case), (2, 2, 2, 2))
        self.assertExact(self.costs(case, claim=1), (2, "?", "?", "?"))

    def test_what_a_party_has_named(self):
        case = case_as(LOST, stage=judged(0, named=(None, ((0, 3), (0, 0))), first_appeal=0))
        for day in (0, 31, 400):
            self.assertExact(self.costs(case, day), (2, None, "?", 2))
        waived = case_as(LOST, stage=judged(0, named=(None, ())))
        self.assertExact(self.costs(waived), (None, None, "?", None))
        # What the opponent has done does not matter.
        waived = case_as(LOST, stage=judged(0, named=((), None)))
        self.assertExact(self.costs(waived), (2, 2, "?", 2))

    def test_what_a_party_has_named_in_another_claim(self):
        stage = judged(0, named=(None, ((1, 0),)), first_appeal=0)
        case = case_as(LOST, LOST, stage=stage)
        self.assertExact(self.costs(case), (None, None, "?", None))
        self.assertExact(self.costs(case, claim=1), (2, None, "?", None))

    def test_remitted_issues_and_others(self):
        claim = claim_as("1110", barred=(3,))
        case = case_as(claim, level=1, stage=deliberating((0, 0)))
        # Issue a is ruled on at level 1, issue c at level 2; nobody reviews the fact b at level 2.
        self.assertExact(self.costs(case), (2, None, 3, None))
        case = case_as(claim_as("1110"), level=1, stage=deliberating((0, 2)))
        self.assertExact(self.costs(case), (None, None, 2, None))
        # At level 0 an issue that is decided is reviewed from level 1 on.
        case = case_as(claim_as("11?0"), claim_as("????"), stage=deliberating())
        self.assertExact(self.costs(case), (2, 2, "?", 2))

    def test_a_later_day_while_a_court_deliberates(self):
        case = case_as(claim_as("1110"), level=1, stage=deliberating((0, 2)))
        for day in (0, 31, 400):
            self.assertExact(self.costs(case, day), (None, None, 2, None))

    def test_by_default(self):
        claim = claim_as("1110", by_default=(0, 2))
        self.assertExact(self.costs(case_as(claim)), (0, 2, 0, 2))
        self.assertExact(self.costs(case_as(claim), 30), (0, 2, 0, 2))
        self.assertExact(self.costs(case_as(claim), 31), (None, None, None, None))
        # The opposition is closed by a waiver; the path is closed, too.
        waived = case_as(claim, stage=judged(0, named=(None, ())))
        self.assertExact(self.costs(waived), (None, None, None, None))
        appealed = case_as(claim, stage=judged(0, named=(None, ((0, 0),)), first_appeal=0))
        self.assertExact(self.costs(appealed), (2, None, None, None))
        above = case_as(claim, level=1)
        self.assertExact(self.costs(above), (None, None, 3, None))

    def test_by_default_comes_before_barred(self):
        # Only above level 0 an issue by default may be barred, and there nothing may be opposed.
        claim = claim_as("1110", barred=(0, 1), by_default=(0,))
        above = case_as(claim, level=1)
        self.assertExact(self.costs(above), (None, None, 3, None))
        # Such a case is not sound; it tells the order in which the cases are looked for.
        self.assertExact(self.costs(case_as(claim)), (0, None, 2, 2))

    def test_the_claimant_may_reopen_the_opposition(self):
        attempts = (((10, "hand", False),), ((0, "hand", False),))
        claims = (claim_as("1110", by_default=(0,)), claim_as("0???"))
        case = case_as(*claims, stage=judged(0, attempts))
        self.assertExact(self.costs(case, 24), (0, 2, 2, 2))
        self.assertExact(self.costs(case, 25), (None, None, None, None))


class MaximumLevels(CostCase):

    def test_the_top_is_never_below_the_level_of_the_case(self):
        case = case_as(claim_as("1110"), level=1, stage=deliberating((0, 2)))
        for up_to, expected in ((0, 2), (1, 2), (2, 2), (9, 2), (None, 2)):
            self.assertExact(self.costs(case, up_to=up_to)[2], expected, up_to)

    def test_below_at_and_above_the_level(self):
        courts = (court(HIGH, bench=1), MIDDLE, LOW)
        config = config_of("(a! and b)", courts=courts)
        case = case_as(claim_as("11"))
        found = [self.costs(case, config=config, up_to=up_to) for up_to in LEVELS]
        self.assertExact(found, [(1, 2), (None, None), (2, 2), (1, 2), (1, 2)])
        case = changed(case, level=1)
        found = [self.costs(case, config=config, up_to=up_to) for up_to in LEVELS]
        self.assertExact(found, [(1, None), (None, None), (None, None), (1, None), (1, None)])
        case = changed(case, level=1, stage=deliberating((0, 0)))
        found = [self.costs(case, config=config, up_to=up_to) for up_to in LEVELS]
        self.assertExact(found, [(1, None), (2, None), (2, None), (1, None), (1, None)])

    def test_a_path_ends_where_a_court_does_not_review(self):
        courts = (court(HIGH, bench=1, facts=True, least=0), court(MIDDLE, facts=False), LOW)
        config = config_of("(a! and b)", courts=courts)
        case = case_as(claim_as("11"))
        self.assertExact(self.costs(case, config=config), (1, None))


class Amounts(CostCase):

    def test_the_amount_of_the_claim_of_each_issue(self):
        courts = (court(HIGH, least=0), court(MIDDLE, least=100), LOW)
        config = config_of("(a! and b)", courts=courts)
        case = case_as(claim_as("11", amount=99), claim_as("11", amount=100), claim_as("11", amount=101))
        found = [self.costs(case, config=config, claim=claim) for claim in range(3)]
        self.assertExact(found, [(None, None), (2, 2), (2, 2)])

    def test_on_the_way(self):
        courts = (court(HIGH, bench=1, least=100), MIDDLE, LOW)
        config = config_of("(a! and b)", courts=courts)
        case = case_as(claim_as("11", amount=99), claim_as("11", amount=100))
        found = [self.costs(case, config=config, claim=claim) for claim in range(2)]
        self.assertExact(found, [(2, 2), (1, 2)])


class BindingPrecedents(CostCase):

    CONFIG = config_of("(a! and b!)", courts=(court(HIGH, bench=3, full_bench=9), MIDDLE, LOW))

    def found(self, level, precedent, case_level=0, finding="1", **parts):
        claim = claim_as(finding + "1", bindings={0: (level, precedent)})
        case = case_as(claim, level=case_level, **parts)
        return self.costs(case, config=self.CONFIG)[0]

    def test_at_below_and_above_the_court_that_reviews(self):
        # Of the middle court 2 of 3 or 5 of 9 votes are needed, of the highest one 2 of 3 or 5 of 9.
        self.assertExact(self.found(0, True), 2)
        self.assertExact(self.found(1, True), 2)
        self.assertExact(self.found(2, True), 5)

    def test_only_up_to_a_level(self):
        claim = claim_as("11", bindings={0: (2, True)})
        found = [self.costs(case_as(claim), config=self.CONFIG, up_to=up_to)[0] for up_to in LEVELS]
        self.assertExact(found, [5, None, None, 5, 5])
        claim = claim_as("11", bindings={0: (1, True)})
        found = [self.costs(case_as(claim), config=self.CONFIG, up_to=up_to)[0] for up_to in LEVELS]
        self.assertExact(found, [2, None, 5, 2, 2])

    def test_back_to_the_finding_of_the_precedent(self):
        remitted = {"case_level": 1, "stage": deliberating((0, 0))}
        self.assertExact(self.found(1, False, **remitted), 2)
        self.assertExact(self.found(1, True, **remitted), 2)
        self.assertExact(self.found(2, True, **remitted), 5)

    def test_majorities(self):
        config = config_of("(a+ and b*)")
        self.assertExact(self.costs(case_as(claim_as("11")), config=config), (2, 1))
        lost = case_as(claim_as("00"))
        self.assertExact(self.costs(lost, config=config), (2, 3))


class ReversalCosts(ExactCase):

    def test_the_least_cost_and_the_required_findings(self):
        case = case_as(LOST)
        self.assertExact(reversal_cost(CONFIG, case, 0, 0, "respondent"), (2, "0???"))
        self.assertExact(reversal_cost(CONFIG, case, 0, 0, "claimant"), (0, "11?0"))
        self.assertExact(reversal_cost(CONFIG, case, 31, 0, "respondent"), (None, None))
        self.assertExact(reversal_cost(CONFIG, case, 31, 0, "claimant"), (0, "11?0"))
        self.assertExact(reversal_cost(CONFIG, case, 0, 0, "respondent", up_to=1), (2, "0???"))
        self.assertExact(reversal_cost(CONFIG, case, 0, 0, "respondent", up_to=0), (None, None))

    def test_sums(self):
        config = config_of("(a or b)", courts=(HIGH, court(MIDDLE, bench=5), LOW))
        case = case_as(claim_as("11"))
        self.assertExact(reversal_cost(config, case, 0, 0, "respondent"), (6, "00"))
        case = case_as(claim_as("11", barred=(1,)))
        self.assertExact(reversal_cost(config, case, 0, 0, "respondent"), (None, None))

    def test_each_claim_has_its_own_cause(self):
        config = config_of("(a or b)", "c+")
        case = case_as(claim_as("11"), claim_as("1", cause=1))
        found = [reversal_cost(config, case, 0, claim, "respondent") for claim in (0, 1)]
        self.assertExact(found, [(4, "00"), (2, "0")])

    def test_an_undecided_claim(self):
        case = case_as(claim_as("1??0"), stage=deliberating())
        self.assertExact(reversal_cost(CONFIG, case, 0, 0, "claimant"), (0, "11?0"))
        self.assertExact(reversal_cost(CONFIG, case, 0, 0, "respondent"), (0, "?00?"))

    def test_arguments_by_name(self):
        with self.assertRaises(TypeError):
            reversal_cost(CONFIG, case_as(LOST), 0, 0, "respondent", 1)
        with self.assertRaises(TypeError):
            issue_costs(CONFIG, case_as(LOST), 0, 0, 1)


class ByLevel(ExactCase):

    def test_one_element_for_each_level_of_the_chain(self):
        case = case_as(LOST)
        self.assertExact(costs_by_level(CONFIG, case, 0, 0, "respondent"), (None, 2, 2))
        self.assertExact(costs_by_level(CONFIG, case, 0, 0, "claimant"), (0, 0, 0))
        self.assertExact(costs_by_level(CONFIG, case, 31, 0, "respondent"), (None, None, None))
        self.assertExact(costs_by_level(CONFIG, changed(case, chain=(1, 0)), 0, 0, "respondent"), (None, None))
        self.assertExact(costs_by_level(CONFIG, changed(case, chain=(0,)), 0, 0, "respondent"), (None,))
        config = config_of("a!", courts=(court(HIGH, bench=1), MIDDLE, LOW))
        found = costs_by_level(config, case_as(claim_as("1")), 0, 0, "respondent")
        self.assertExact(found, (None, 2, 1))


class Final(ExactCase):

    def test_the_last_day(self):
        case = case_as(LOST)
        self.assertExact([is_final(CONFIG, case, day, 0) for day in (0, 30, 31, 400)], [False, False, True, True])

    def test_each_claim_alone(self):
        case = case_as(LOST, claim_as("11?0", barred=(0, 1, 3)))
        self.assertExact([is_final(CONFIG, case, 0, claim) for claim in (0, 1)], [False, True])

    def test_an_undecided_claim_is_not_final(self):
        config = config_of("a")
        case = case_as(claim_as("?"), stage=deliberating())
        self.assertExact(is_final(config, case, 400, 0), False)
        self.assertExact(is_final(CONFIG, case_as(claim_as("1??0"), stage=deliberating()), 400, 0), False)

    def test_while_a_court_deliberates(self):
        case = case_as(LOST, claim_as("11?0", barred=(1,)), level=1, stage=deliberating((0, 0)))
        self.assertExact([is_final(CONFIG, case, 0, claim) for claim in (0, 1)], [False, True])

    def test_the_highest_level_counts(self):
        # Facts are beyond the highest court, the law is not.
        law = config_of("a!")
        fact = config_of("a")
        for config, expected in ((law, False), (fact, True)):
            case = case_as(claim_as("1"), level=1)
            self.assertExact(is_final(config, case, 0, 0), expected)

    def test_lost_by_the_claimant(self):
        case = case_as(claim_as("0???"))
        self.assertExact([is_final(CONFIG, case, day, 0) for day in (0, 30, 31)], [False, False, True])


class CurrentGrounds(ExactCase):

    def test_the_packing_for_the_winner(self):
        config = config_of("((a or b) and (c or d))")
        case = case_as(claim_as("1111"))
        self.assertExact(current_grounds(config, case, 0, 0), (("1?1?", 2), ("?1?1", 2)))
        self.assertExact(current_grounds(config, case, 31, 0), (("1?1?", None),))
        case = case_as(claim_as("1110", barred=(2,)))
        self.assertExact(current_grounds(config, case, 0, 0), (("1?1?", 2), ("?11?", 2)))
        lost = case_as(claim_as("0011"))
        self.assertExact(current_grounds(config, lost, 0, 0), (("00??", 2),))

    def test_an_undecided_claim_has_none(self):
        for stage in (deliberating(), deliberating((0, 0))):
            case = case_as(claim_as("1??0"), claim_as("11?0"), level=1, stage=stage)
            self.assertExact(current_grounds(CONFIG, case, 0, 0), ())

    def test_a_final_claim_may_also_have_a_ground_of_finite_weight(self):
        config = config_of("((a or b) and c)")
        case = case_as(claim_as("111", barred=(1, 2)))
        self.assertExact(current_grounds(config, case, 0, 0), (("1?1", 2), ("?11", None)))
        self.assertExact(is_final(config, case, 0, 0), True)

    def test_a_claim_that_costs_nothing(self):
        claim = claim_as("1110", by_default=(0, 1, 2, 3))
        self.assertExact(current_grounds(CONFIG, case_as(claim), 0, 0), ())
        self.assertExact(current_grounds(CONFIG, case_as(claim), 31, 0), (("11?0", None),))


class Drawn(ExactCase):

    def test_costs_by_definition(self):
        seen = {}
        for draw, config, case, day in sound_cases(210, 1200, courts=4):
            model = Model(config, case)
            claim = draw.randrange(len(case[11]))
            up_to = draw.choice((None, 0, 1, 2, 3, 9))
            costs = issue_costs(config, case, day, claim, up_to=up_to)
            self.assertExact(costs, model.costs(day, claim, up_to), (config, case, day, claim, up_to))
            for pair in costs:
                seen[pair] = seen.get(pair, 0) + 1
            for party in BOTH:
                cost, required = reversal_cost(config, case, day, claim, party, up_to=up_to)
                self.assertExact(cost, cost_of(model.least(costs, claim, party)), (config, case, day))
                if cost is None:
                    self.assertExact(required, None)
                else:
                    self.assertExact(assignment_cost(costs, required), cost)
        self.assertGreater(len(seen), 10)

    def test_0_for_the_winner_and_monotone(self):
        for draw, config, case, day in sound_cases(211, 700):
            model = Model(config, case)
            for claim in range(len(case[11])):
                winner = model.winner(claim)
                for party in BOTH:
                    by_level = costs_by_level(config, case, day, claim, party)
                    self.assertExact(len(by_level), len(case[5]))
                    told = [
                        reversal_cost(config, case, day, claim, party, up_to=level)[0]
                        for level in range(len(case[5]))
                    ]
                    self.assertExact(list(by_level), told)
                    whole = reversal_cost(config, case, day, claim, party)[0]
                    self.assertExact(by_level[-1], whole)
                    self.assertExact(reversal_cost(config, case, day, claim, party, up_to=9)[0], whole)
                    for lower, higher in zip(by_level, by_level[1:]):
                        self.assertTrue(is_no_less(lower, higher))
                    later = reversal_cost(config, case, day + draw.randint(1, 20), claim, party)[0]
                    self.assertTrue(is_no_less(later, whole))
                    if party == winner:
                        self.assertExact(set(by_level), {0})

    def test_final_claims_and_grounds(self):
        finals = {True: 0, False: 0}
        for draw, config, case, day in sound_cases(212, 900):
            model = Model(config, case)
            claim = draw.randrange(len(case[11]))
            winner = model.winner(claim)
            grounds = current_grounds(config, case, day, claim)
            final = is_final(config, case, day, claim)
            if winner is None:
                self.assertExact((final, grounds), (False, ()))
                continue
            finals[final] += 1
            cause = config[4][case[11][claim][0]]
            costs = issue_costs(config, case, day, claim)
            cost, required = reversal_cost(config, case, day, claim, other_party(winner))
            self.assertExact(final, cost is None)
            self.assertExact(total_weight(grounds), cost)
            known = list(each_ground(cause, winner))
            for assignment, weight in grounds:
                self.assertIn(assignment, known)
                self.assertTrue(supports(model.findings(claim), assignment))
                self.assertNotEqual(weight, 0)
            if cost is not None:
                self.assertTrue(check_certificate(cause, costs, winner, grounds, required))
        self.assertGreater(min(finals.values()), 100)


if __name__ == "__main__":
    unittest.main()
