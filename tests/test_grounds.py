"""Points 110 and 111: grounds."""

import inspect
import random
import unittest
from itertools import product

from drawing import draw_cause, draw_findings
from exact import ExactCase
from overturn.causes import winner_by
from overturn.grounds import count_grounds, each_ground, ground_at, ground_number, supports
from overturn.reader import read_cause
from trees import PARTIES, all_assignments, grounds_by_table, is_win


def grounds_by_definition(cause, issues, party):
    """Return the assignments that make the party win, and no longer if any issue is released."""
    found = []
    for assignment in all_assignments(issues):
        released = [
            assignment[:issue] + "?" + assignment[issue + 1:]
            for issue in range(issues) if assignment[issue] != "?"
        ]
        if is_win(cause, assignment, party) and not any(is_win(cause, one, party) for one in released):
            found.append(assignment)
    return found


class Grounds(ExactCase):

    def check(self, text, claimant, respondent):
        cause = read_cause(text)
        self.assertExact(list(each_ground(cause, "claimant")), claimant.split(), text)
        self.assertExact(list(each_ground(cause, "respondent")), respondent.split(), text)

    def test_a_single_issue(self):
        self.check("a", "1", "0")
        self.check("a!", "1", "0")

    def test_each_connective(self):
        self.check("(a and b)", "11", "0? ?0")
        self.check("(a or b)", "1? ?1", "00")
        self.check("(a unless b)", "10", "0? ?1")

    def test_products_go_by_the_ground_of_the_first_operand(self):
        self.check("((a or b) and (c or d))", "1?1? 1??1 ?11? ?1?1", "00?? ??00")
        self.check("((a and b) or (c and d))", "11?? ??11", "0?0? 0??0 ?00? ?0?0")
        self.check("((a or b) unless (c and d))", "1?0? 1??0 ?10? ?1?0", "00?? ??11")

    def test_unions_within_unions(self):
        self.check("(a or (b or (c and d)))", "1??? ?1?? ??11", "000? 00?0")
        self.check("((a or b) or c)", "1?? ?1? ??1", "000")

    def test_unless_nested_in_its_second_operand(self):
        self.check("(a unless (b unless c))", "10? 1?1", "0?? ?10")
        self.check("(a unless (b unless (c unless d)))", "10?? 1?10", "0??? ?10? ?1?1")
        self.check("((a unless b) unless c)", "100", "0?? ?1? ??1")

    def test_the_most_grounds_that_there_are(self):
        text = "(((a or b) or c) and (((d or e) or f) and (g or h)))"
        self.assertExact(count_grounds(read_cause(text), "claimant"), 18)
        self.assertExact(count_grounds(read_cause(text), "respondent"), 3)

    def test_each_ground_is_a_generator(self):
        cause = read_cause("(a or b)")
        self.assertTrue(inspect.isgeneratorfunction(each_ground))
        self.assertTrue(inspect.isgenerator(each_ground(cause, "claimant")))
        grounds = each_ground(cause, "claimant")
        self.assertExact((next(grounds), next(grounds), next(grounds, None)), ("1?", "?1", None))

    def test_grounds_that_are_asked_for_by_turns(self):
        causes = (read_cause("((a or b) and (c or d))"), read_cause("(a or (b or c))"))
        asked = [(cause, party) for cause in causes + causes for party in PARTIES]
        generators = [each_ground(cause, party) for cause, party in asked]
        found = [[] for _ in asked]
        for _ in range(5):
            for row, generator in zip(found, generators):
                row.append(next(generator, None))
        for row, (cause, party) in zip(found, asked):
            expected = grounds_by_table(cause, party == "claimant")
            self.assertExact(row, (expected + [None] * 5)[:5])

    def test_the_rest_of_some_grounds_may_be_left(self):
        cause = read_cause("((a or b) and (c or d))")
        for _ in range(3):
            self.assertExact(next(each_ground(cause, "claimant")), "1?1?")
        self.assertExact(len(list(each_ground(cause, "claimant"))), 4)

    def test_the_table(self):
        draw = random.Random(110)
        for _ in range(600):
            many = draw.randint(1, 8)
            cause = draw_cause(draw, many)
            for party in PARTIES:
                expected = grounds_by_table(cause, party == "claimant")
                self.assertExact(list(each_ground(cause, party)), expected, (cause, party))
                self.assertExact(count_grounds(cause, party), len(expected), (cause, party))
                self.assertLessEqual(len(expected), 18)

    def test_they_are_the_least_assignments_that_make_the_party_win(self):
        draw = random.Random(111)
        for _ in range(80):
            many = draw.randint(1, 5)
            cause = draw_cause(draw, many)
            for party in PARTIES:
                expected = grounds_by_definition(cause, many, party)
                found = sorted(each_ground(cause, party))
                self.assertExact(found, sorted(expected), (cause, party))


class NumbersOfGrounds(ExactCase):

    def test_the_last_ground_and_the_number_behind_it(self):
        cause = read_cause("((a or b) and (c or d))")
        self.assertExact(ground_at(cause, "claimant", 0), "1?1?")
        self.assertExact(ground_at(cause, "claimant", 3), "?1?1")
        self.assertExact(ground_at(cause, "claimant", 4), None)
        self.assertExact(ground_at(cause, "claimant", 99), None)
        self.assertExact(ground_at(cause, "respondent", 1), "??00")
        self.assertExact(ground_at(cause, "respondent", 2), None)

    def test_a_single_issue(self):
        cause = read_cause("a")
        self.assertExact(ground_at(cause, "claimant", 0), "1")
        self.assertExact(ground_at(cause, "respondent", 0), "0")
        self.assertExact(ground_at(cause, "respondent", 1), None)
        found = [ground_number(cause, "claimant", letter) for letter in "10?"]
        self.assertExact(found, [0, None, None])
        found = [ground_number(cause, "respondent", letter) for letter in "10?"]
        self.assertExact(found, [None, 0, None])

    def test_assignments_that_are_no_ground_by_one_sign(self):
        cause = read_cause("((a or b) and (c or d))")
        self.assertExact(ground_number(cause, "claimant", "?11?"), 2)
        for assignment in ("?111", "111?", "?01?", "?10?", "?1??", "??1?", "011?", "?110"):
            self.assertExact(ground_number(cause, "claimant", assignment), None, assignment)
        self.assertExact(ground_number(cause, "respondent", "?11?"), None)
        self.assertExact(ground_number(cause, "respondent", "??00"), 1)
        self.assertExact(ground_number(cause, "claimant", "????"), None)

    def test_drawn_causes(self):
        draw = random.Random(112)
        for _ in range(60):
            many = draw.randint(1, 5)
            cause = draw_cause(draw, many)
            for party in PARTIES:
                grounds = grounds_by_table(cause, party == "claimant")
                found = [ground_at(cause, party, number) for number in range(len(grounds) + 2)]
                self.assertExact(found, grounds + [None, None], (cause, party))
                for assignment in all_assignments(many):
                    expected = grounds.index(assignment) if assignment in grounds else None
                    found = ground_number(cause, party, assignment)
                    self.assertExact(found, expected, (cause, party, assignment))


class Support(ExactCase):

    def test_each_finding_and_each_letter(self):
        expected = {"11": True, "00": True, "1?": True, "0?": True, "??": True}
        for finding, letter in product("10?", repeat=2):
            found = supports(finding, letter)
            self.assertExact(found, expected.get(finding + letter, False), (finding, letter))

    def test_every_constrained_issue_counts(self):
        self.assertExact(supports("11?1", "?1?1"), True)
        self.assertExact(supports("11?1", "???0"), False)
        self.assertExact(supports("01?1", "1??1"), False)
        self.assertExact(supports("11?1", "??1?"), False)
        self.assertExact(supports("????", "????"), True)

    def test_a_party_is_the_winner_exactly_if_some_ground_for_it_is_supported(self):
        draw = random.Random(113)
        for _ in range(800):
            many = draw.randint(1, 8)
            cause, findings = draw_cause(draw, many), draw_findings(draw, many)
            for party in PARTIES:
                found = any(supports(findings, ground) for ground in each_ground(cause, party))
                self.assertExact(winner_by(cause, findings) == party, found, (cause, findings, party))


if __name__ == "__main__":
    unittest.main()
