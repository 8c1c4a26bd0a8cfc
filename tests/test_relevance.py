"""Points 90 and 91: relevance, least rulings and stalling findings."""

import random
import unittest

from drawing import draw_cause, draw_findings
from exact import ExactCase
from overturn.causes import value_of
from overturn.reader import read_cause
from overturn.relevance import least_rulings, relevant_issues, stalling_finding
from trees import PARTIES, extensions_of, formulas_of, relevant_by_definition, replaced, value_by_all


def least_by_definition(cause, findings, party):
    """Return the least rulings by a look at all findings that extend the given ones."""
    many = [
        findings.count("?") - extended.count("?")
        for extended in extensions_of(findings)
        if value_by_all(cause, extended) is (party == "claimant")
    ]
    return min(many) if many else None


def stalling_by_definition(cause, findings, issue):
    """Return the stalling finding by the formulas that contain the issue, as they are told."""
    formulas = [told for told in formulas_of(cause) if told[1] <= issue < told[2]]
    considered = []
    for formula, begin, end in formulas[:-1]:
        middle = begin + len([one for one, _, _ in formulas_of(formula[1]) if one[0] == "issue"])
        in_first = issue < middle
        other = (formula[2], middle, end) if in_first else (formula[1], begin, middle)
        if value_by_all(other[0], findings[other[1]:other[2]]) is None:
            own = (formula[1], begin, middle) if in_first else (formula[2], middle, end)
            considered.append((formula[0], in_first, own))
    if not considered:
        return True
    connective, in_first, (operand, begin, end) = considered[-1]
    wanted = {"and": True, "or": False, "unless": in_first}[connective]
    found = [
        finding for finding in (True, False)
        if value_by_all(operand, replaced(findings, issue, finding)[begin:end]) is wanted
    ]
    finding, = found
    return finding


class Relevance(ExactCase):

    def test_a_single_issue(self):
        cause = read_cause("a")
        found = [relevant_issues(cause, letter) for letter in "?10"]
        self.assertExact(found, [(0,), (), ()])

    def test_decided_issues_are_not_relevant(self):
        cause = read_cause("(a and (b or c))")
        self.assertExact(relevant_issues(cause, "???"), (0, 1, 2))
        self.assertExact(relevant_issues(cause, "1?0"), (1,))

    def test_an_issue_within_a_formula_that_has_a_value(self):
        cause = read_cause("((a or b) and ((c and d) or e))")
        self.assertExact(relevant_issues(cause, "1??0?"), (4,))
        self.assertExact(relevant_issues(cause, "???0?"), (0, 1, 4))

    def test_nothing_is_relevant_behind_a_winner(self):
        cause = read_cause("(a unless (b and c))")
        self.assertExact(relevant_issues(cause, "0??"), ())
        self.assertExact(relevant_issues(cause, "?11"), ())
        self.assertExact(relevant_issues(cause, "1?0"), ())

    def test_drawn_causes(self):
        draw = random.Random(90)
        for _ in range(800):
            many = draw.randint(1, 8)
            cause, findings = draw_cause(draw, many), draw_findings(draw, many)
            expected = relevant_by_definition(cause, findings)
            self.assertExact(relevant_issues(cause, findings), expected, (cause, findings))


class LeastRulings(ExactCase):

    def test_the_winner_needs_none(self):
        cause = read_cause("(a unless b)")
        self.assertExact(least_rulings(cause, "10", "claimant"), 0)
        self.assertExact(least_rulings(cause, "0?", "respondent"), 0)
        self.assertExact(least_rulings(cause, "?1", "respondent"), 0)

    def test_least_rulings_that_do_not_exist(self):
        cause = read_cause("(a unless b)")
        self.assertExact(least_rulings(cause, "0?", "claimant"), None)
        self.assertExact(least_rulings(cause, "?1", "claimant"), None)
        self.assertExact(least_rulings(cause, "10", "respondent"), None)

    def test_each_connective(self):
        for connective, claimant, respondent in (("and", 2, 1), ("or", 1, 2), ("unless", 2, 1)):
            cause = read_cause(f"(a {connective} b)")
            self.assertExact(least_rulings(cause, "??", "claimant"), claimant)
            self.assertExact(least_rulings(cause, "??", "respondent"), respondent)

    def test_the_cheaper_operand_counts(self):
        cause = read_cause("((a and (b and c)) or (d and e))")
        self.assertExact(least_rulings(cause, "?????", "claimant"), 2)
        self.assertExact(least_rulings(cause, "11???", "claimant"), 1)
        self.assertExact(least_rulings(cause, "???0?", "claimant"), 3)
        self.assertExact(least_rulings(cause, "0??0?", "claimant"), None)
        self.assertExact(least_rulings(cause, "?????", "respondent"), 2)

    def test_drawn_causes(self):
        draw = random.Random(91)
        for _ in range(300):
            many = draw.randint(1, 6)
            cause, findings = draw_cause(draw, many), draw_findings(draw, many)
            for party in PARTIES:
                expected = least_by_definition(cause, findings, party)
                self.assertExact(least_rulings(cause, findings, party), expected, (cause, findings, party))


class StallingFindings(ExactCase):

    def test_no_other_operand_is_undetermined(self):
        for text, findings, issue in (("a", "?", 0), ("(a and b)", "1?", 1), ("(a unless b)", "1?", 1)):
            self.assertExact(stalling_finding(read_cause(text), findings, issue), True)

    def test_each_connective_and_operand(self):
        for connective, first, second in (("and", True, True), ("or", False, False), ("unless", True, False)):
            cause = read_cause(f"(a {connective} b)")
            self.assertExact(stalling_finding(cause, "??", 0), first)
            self.assertExact(stalling_finding(cause, "??", 1), second)

    def test_the_operand_and_not_the_issue_has_the_told_value(self):
        cause = read_cause("((a unless b) or c)")
        self.assertExact(stalling_finding(cause, "1??", 1), True)
        self.assertExact(stalling_finding(cause, "1??", 2), False)
        cause = read_cause("((a unless b) and c)")
        self.assertExact(stalling_finding(cause, "1??", 1), False)

    def test_the_innermost_formula_counts(self):
        cause = read_cause("((a or b) and c)")
        self.assertExact(stalling_finding(cause, "???", 0), False)
        self.assertExact(stalling_finding(cause, "?0?", 0), True)

    def relevant_draws(self, seed, many):
        draw = random.Random(seed)
        for _ in range(many):
            issues = draw.randint(1, 8)
            cause, findings = draw_cause(draw, issues), draw_findings(draw, issues)
            for issue in relevant_by_definition(cause, findings):
                yield draw, cause, findings, issue

    def test_drawn_causes(self):
        for _, cause, findings, issue in self.relevant_draws(92, 500):
            expected = stalling_by_definition(cause, findings, issue)
            self.assertExact(stalling_finding(cause, findings, issue), expected, (cause, findings, issue))

    def test_behind_it_exactly_the_other_relevant_issues_are_relevant(self):
        for _, cause, findings, issue in self.relevant_draws(93, 400):
            others = tuple(one for one in relevant_issues(cause, findings) if one != issue)
            behind = replaced(findings, issue, stalling_finding(cause, findings, issue))
            self.assertExact(relevant_issues(cause, behind), others, (cause, findings, issue))

    def test_the_value_is_open_until_all_relevant_issues_are_decided(self):
        for draw, cause, findings, _ in self.relevant_draws(94, 150):
            order = list(relevant_issues(cause, findings))
            draw.shuffle(order)
            for issue in order:
                self.assertExact(value_of(cause, findings), None)
                findings = replaced(findings, issue, stalling_finding(cause, findings, issue))
            self.assertIsNotNone(value_of(cause, findings))


if __name__ == "__main__":
    unittest.main()
