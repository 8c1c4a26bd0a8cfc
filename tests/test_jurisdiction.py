"""Point 140: jurisdiction, gaps and overlaps."""

import random
import unittest

from drawing import draw_jurisdiction
from exact import ExactCase
from overturn.jurisdiction import applicable_rules, competent_court, first_gap, first_overlap

EVERY = (0, 1, 2, 3)


def applicable_by_definition(jurisdiction, category, amount):
    """Return the numbers of the rules that apply."""
    found = []
    for number, (categories, low, high, _) in enumerate(jurisdiction):
        end = float("inf") if high is None else high
        if category in categories and low <= amount <= end:
            found.append(number)
    return tuple(found)


def first_pair(jurisdiction, amounts, wanted):
    """Return the first pair for which the number of the rules that apply is wanted, or None."""
    for category in EVERY:
        for amount in amounts:
            if wanted(len(applicable_by_definition(jurisdiction, category, amount))):
                return category, amount
    return None


class RulesThatApply(ExactCase):

    def check(self, rule, category, amount, expected):
        found = applicable_rules((rule,), category, amount)
        self.assertExact(found, (0,) if expected else (), (rule, category, amount))
        court = rule[3] if expected else None
        self.assertExact(competent_court((rule,), category, amount), court, (rule, category, amount))

    def test_the_ends_of_a_rule(self):
        rule = ((1,), 10, 20, 7)
        for amount, expected in ((0, False), (9, False), (10, True), (15, True), (20, True), (21, False)):
            self.check(rule, 1, amount, expected)

    def test_a_rule_for_one_amount(self):
        for amount, expected in ((9, False), (10, True), (11, False)):
            self.check(((1,), 10, 10, 7), 1, amount, expected)

    def test_categories(self):
        for category, expected in ((0, True), (1, False), (2, True), (3, False)):
            self.check(((0, 2), 0, None, 0), category, 5, expected)

    def test_without_an_upper_end(self):
        self.check(((0,), 10, None, 3), 0, 100000, True)
        self.check(((0,), 10, None, 3), 0, 10, True)
        self.check(((0,), 10, None, 3), 0, 9, False)
        self.check(((0,), 100000, 100000, 3), 0, 100000, True)

    def test_a_rule_that_is_empty(self):
        for amount in (8, 9, 10, 11):
            self.check((EVERY, 10, 9, 3), 2, amount, False)

    def test_the_upper_end_zero(self):
        self.check((EVERY, 0, 0, 3), 2, 0, True)
        self.check((EVERY, 0, 0, 3), 2, 1, False)

    def test_several_rules(self):
        rules = (((3,), 0, None, 5), (EVERY, 5, 9, 4), (EVERY, 9, None, 6), ((2, 3), 9, 9, 2))
        self.assertExact(applicable_rules(rules, 3, 9), (0, 1, 2, 3))
        self.assertExact(competent_court(rules, 3, 9), 5)
        self.assertExact(applicable_rules(rules, 2, 9), (1, 2, 3))
        self.assertExact(competent_court(rules, 2, 9), 4)
        self.assertExact(competent_court(rules, 2, 10), 6)
        self.assertExact(applicable_rules(rules, 2, 4), ())
        self.assertExact(competent_court(rules, 2, 4), None)

    def test_drawn_rules(self):
        draw = random.Random(140)
        for _ in range(300):
            rules = draw_jurisdiction(draw, 8)
            for category in EVERY:
                for amount in range(11):
                    expected = applicable_by_definition(rules, category, amount)
                    self.assertExact(applicable_rules(rules, category, amount), expected, rules)
                    court = rules[expected[0]][3] if expected else None
                    self.assertExact(competent_court(rules, category, amount), court, rules)


class GapsAndOverlaps(ExactCase):

    def check(self, rules, gap, overlap):
        self.assertExact(first_gap(rules), gap, rules)
        self.assertExact(first_overlap(rules), overlap, rules)

    def test_neither(self):
        self.check(((EVERY, 0, None, 0),), None, None)
        self.check(((EVERY, 0, 9, 0), (EVERY, 10, None, 0)), None, None)
        self.check(((EVERY, 10, None, 0), (EVERY, 0, 9, 0)), None, None)

    def test_a_gap_of_one_amount(self):
        self.check(((EVERY, 0, 9, 0), (EVERY, 11, None, 0)), (0, 10), None)
        self.check(((EVERY, 1, None, 0),), (0, 0), None)

    def test_an_overlap_in_one_amount(self):
        self.check(((EVERY, 0, 10, 0), (EVERY, 10, None, 1)), None, (0, 10))
        self.check(((EVERY, 0, None, 0), (EVERY, 0, 0, 1)), None, (0, 0))

    def test_rules_that_name_the_same_court_overlap(self):
        self.check(((EVERY, 0, None, 4), ((2,), 7, 8, 4)), None, (2, 7))

    def test_amounts_have_no_upper_limit(self):
        self.check(((EVERY, 0, 100000, 0),), (0, 100001), None)
        self.check(((EVERY, 0, None, 0), ((3,), 100000, None, 0)), None, (3, 100000))

    def test_some_categories_only(self):
        self.check((((0,), 0, None, 0),), (1, 0), None)
        self.check((((0, 1, 2), 0, None, 0), ((3,), 0, 50, 0)), (3, 51), None)
        self.check((((0, 1), 0, None, 0), ((1, 2, 3), 0, None, 0)), None, (1, 0))
        self.check((((0, 2), 0, None, 0), ((1, 3), 0, None, 0)), None, None)

    def test_the_first_pair_goes_by_the_category_first(self):
        rules = (((0,), 0, 500, 0), ((1, 2, 3), 3, None, 0))
        self.check(rules, (0, 501), None)
        rules = ((EVERY, 0, None, 0), ((1,), 900, None, 0), ((2, 3), 1, None, 0))
        self.check(rules, None, (1, 900))

    def test_the_first_amount_counts_whatever_the_order_of_the_rules(self):
        rules = ((EVERY, 40, 49, 0), (EVERY, 60, None, 0), (EVERY, 0, 9, 0), (EVERY, 11, 30, 0))
        self.check(rules, (0, 10), None)
        rules = ((EVERY, 0, None, 0), (EVERY, 60, 70, 0), (EVERY, 20, 30, 0))
        self.check(rules, None, (0, 20))

    def test_an_empty_rule_fills_and_overlaps_nothing(self):
        self.check(((EVERY, 0, None, 0), (EVERY, 10, 9, 0), (EVERY, 100, 5, 0)), None, None)
        self.check(((EVERY, 10, 9, 0),), (0, 0), None)
        self.check(((EVERY, 0, 9, 0), (EVERY, 10, 9, 0), (EVERY, 11, None, 0)), (0, 10), None)

    def test_three_rules_that_apply(self):
        self.check(((EVERY, 0, 9, 0), (EVERY, 5, 9, 0), (EVERY, 5, None, 0)), None, (0, 5))

    def test_a_rule_within_another_one(self):
        self.check(((EVERY, 0, 99, 0), (EVERY, 20, 30, 0)), (0, 100), (0, 20))

    def test_every_amount_near_an_end(self):
        draw = random.Random(141)
        gaps, overlaps = [], []
        for limit in [6] * 1500 + [100000] * 500:
            rules = draw_jurisdiction(draw, limit)
            near = {0, 1}
            for _, low, high, _ in rules:
                for end in (low, low if high is None else high):
                    near.update(range(max(0, end - 2), end + 3))
            amounts = sorted(near)
            gaps.append(first_pair(rules, amounts, lambda many: many == 0))
            overlaps.append(first_pair(rules, amounts, lambda many: many >= 2))
            self.check(rules, gaps[-1], overlaps[-1])
        self.assertIn(None, gaps)
        self.assertIn(None, overlaps)


if __name__ == "__main__":
    unittest.main()
