"""Points 7, 100 and 101: costs, assignments and the least cost."""

import random
import unittest

from drawing import draw_assignment, draw_cause, draw_costs
from exact import ExactCase
from overturn.costs import assignment_cost, least_cost
from overturn.reader import read_cause
from trees import (
    INFINITE,
    PARTIES,
    all_assignments,
    assignment_number,
    cost_of,
    is_win,
    least_by_table,
)


class AssignmentCosts(ExactCase):

    def test_each_letter(self):
        costs = ((1, 20), (300, 4000))
        found = [assignment_cost(costs, assignment) for assignment in ("1?", "0?", "?1", "?0", "10", "01")]
        self.assertExact(found, [1, 20, 300, 4000, 4001, 320])

    def test_no_issue_is_constrained(self):
        self.assertExact(assignment_cost(((None, None), (7, 8)), "??"), 0)
        self.assertExact(assignment_cost(((None, 5),), "?"), 0)

    def test_infinite_costs(self):
        costs = ((0, None), (None, 0), (3, 4))
        found = [assignment_cost(costs, assignment) for assignment in ("0?1", "?10", "10?", "101", "???", "01?")]
        self.assertExact(found, [None, None, 0, 3, 0, None])

    def test_costs_of_zero(self):
        self.assertExact(assignment_cost(((0, 0), (0, 0)), "10"), 0)

    def test_costs_beyond_the_bounds(self):
        self.assertExact(assignment_cost(((1000, 0), (2000, 0)), "11"), 3000)

    def test_drawn_assignments(self):
        draw = random.Random(100)
        for _ in range(500):
            many = draw.randint(1, 8)
            costs, assignment = draw_costs(draw, many), draw_assignment(draw, many)
            expected = cost_of(assignment_number(costs, assignment))
            self.assertExact(assignment_cost(costs, assignment), expected, (costs, assignment))


class LeastCosts(ExactCase):

    def check(self, text, costs, claimant, respondent):
        cause = read_cause(text)
        self.assertExact(least_cost(cause, costs, "claimant"), claimant, (text, costs))
        self.assertExact(least_cost(cause, costs, "respondent"), respondent, (text, costs))

    def test_a_single_issue(self):
        self.check("a", ((3, 4),), (3, "1"), (4, "0"))
        self.check("a", ((0, 0),), (0, "1"), (0, "0"))
        self.check("a", ((None, 0),), (None, None), (0, "0"))
        self.check("a", ((0, None),), (0, "1"), (None, None))

    def test_each_connective(self):
        costs = ((1, 20), (300, 4000))
        self.check("(a and b)", costs, (301, "11"), (20, "0?"))
        self.check("(a or b)", costs, (1, "1?"), (4020, "00"))
        self.check("(a unless b)", costs, (4001, "10"), (20, "0?"))

    def test_the_second_operand_has_the_smaller_cost(self):
        costs = ((300, 4000), (1, 20))
        self.check("(a and b)", costs, (301, "11"), (20, "?0"))
        self.check("(a or b)", costs, (1, "?1"), (4020, "00"))
        self.check("(a unless b)", costs, (320, "10"), (1, "?1"))

    def test_of_equal_costs_that_of_the_first_operand_counts(self):
        for costs in (((5, 5), (5, 5)), ((0, 0), (0, 0))):
            one = costs[0][0]
            self.check("(a and b)", costs, (2 * one, "11"), (one, "0?"))
            self.check("(a or b)", costs, (one, "1?"), (2 * one, "00"))
            self.check("(a unless b)", costs, (2 * one, "10"), (one, "0?"))

    def test_equal_costs_of_formulas(self):
        costs = ((1, 1), (2, 2), (3, 3))
        self.check("((a and b) or c)", costs, (3, "11?"), (4, "0?0"))
        self.check("(c or (a and b))", costs[2:] + costs[:2], (3, "1??"), (4, "00?"))
        self.check("((a or b) and c)", costs, (4, "1?1"), (3, "00?"))
        self.check("(c unless (a and b))", costs[2:] + costs[:2], (4, "10?"), (3, "0??"))

    def test_infinite_costs_on_each_side(self):
        self.check("(a and b)", ((None, 3), (2, 4)), (None, None), (3, "0?"))
        self.check("(a and b)", ((2, 4), (None, 3)), (None, None), (3, "?0"))
        self.check("(a and b)", ((2, None), (0, 3)), (2, "11"), (3, "?0"))
        self.check("(a or b)", ((None, 3), (2, 4)), (2, "?1"), (7, "00"))
        self.check("(a or b)", ((2, None), (None, 3)), (2, "1?"), (None, None))
        self.check("(a unless b)", ((2, None), (None, 3)), (5, "10"), (None, None))
        self.check("(a unless b)", ((2, None), (7, None)), (None, None), (7, "?1"))

    def test_two_infinite_costs(self):
        costs = ((None, None), (None, None))
        for connective in ("and", "or", "unless"):
            self.check(f"(a {connective} b)", costs, (None, None), (None, None))

    def test_an_infinite_cost_within_a_part_that_is_not_needed(self):
        self.check("((a and b) or c)", ((None, 0), (1, 0), (9, 0)), (9, "??1"), (0, "0?0"))
        self.check("(a or (b unless c))", ((4, 0), (1, 0), (0, None)), (4, "1??"), (0, "00?"))

    def test_unless_nested_in_its_second_operand(self):
        costs = ((1, 50), (60, 5), (2, 40))
        self.check("(a unless (b unless c))", costs, (3, "1?1"), (50, "0??"))
        self.check("(a unless (b unless c))", ((1, 200),) + costs[1:], (3, "1?1"), (100, "?10"))

    def test_the_tables(self):
        draw = random.Random(101)
        for _ in range(1500):
            many = draw.randint(1, 8)
            cause, costs = draw_cause(draw, many), draw_costs(draw, many)
            for party in PARTIES:
                cost, assignment = least_by_table(cause, costs, party == "claimant")
                expected = (None, None) if cost == INFINITE else (cost, assignment)
                self.assertExact(least_cost(cause, costs, party), expected, (cause, costs, party))

    def test_no_assignment_that_makes_the_party_win_costs_less(self):
        draw = random.Random(102)
        for _ in range(120):
            many = draw.randint(1, 5)
            cause, costs = draw_cause(draw, many), draw_costs(draw, many)
            for party in PARTIES:
                wins = [one for one in all_assignments(many) if is_win(cause, one, party)]
                least = min(assignment_number(costs, one) for one in wins)
                cost, assignment = least_cost(cause, costs, party)
                self.assertExact(cost, cost_of(least), (cause, costs, party))
                if cost is None:
                    self.assertExact(assignment, None)
                    continue
                self.assertTrue(is_win(cause, assignment, party), (cause, costs, party))
                self.assertExact(assignment_cost(costs, assignment), cost, (cause, costs, party))


if __name__ == "__main__":
    unittest.main()
