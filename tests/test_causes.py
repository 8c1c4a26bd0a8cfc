"""Points 72, 74 and 80: issues, depths, values and winners."""

import random
import unittest

from drawing import draw_cause, draw_findings
from exact import ExactCase
from overturn.causes import depth_of, issues_of, value_of, winner_by
from overturn.reader import read_cause
from trees import PARTIES, formulas_of, is_true, value_by_all

WINNERS = {True: "claimant", False: "respondent", None: None}
LETTERS = {True: "1", False: "0", None: "?"}
# The rows of the table of point 80: the values of A and B, and that of the formula.
TABLE = {
    "and": ("11 1", "10 0", "1? ?", "01 0", "00 0", "0? 0", "?1 ?", "?0 0", "?? ?"),
    "or": ("11 1", "10 1", "1? 1", "01 1", "00 0", "0? ?", "?1 1", "?0 ?", "?? ?"),
    "unless": ("11 0", "10 1", "1? ?", "01 0", "00 0", "0? 0", "?1 0", "?0 ?", "?? ?"),
}


class IssuesOfACause(ExactCase):

    def parties(self, text):
        return "".join(issue[3][0] for issue in issues_of(read_cause(text)))

    def test_names_without_suffixes_in_order(self):
        found = issues_of(read_cause("((zz! and y) or (b+ unless a*))"))
        expected = (
            ("zz", True, 0, "claimant"),
            ("y", False, 0, "claimant"),
            ("b", False, 1, "claimant"),
            ("a", False, 2, "respondent"),
        )
        self.assertExact(found, expected)

    def test_a_single_issue(self):
        self.assertExact(issues_of(read_cause("a+")), (("a", False, 1, "claimant"),))

    def test_parties(self):
        self.assertExact(self.parties("(a and (b or c))"), "ccc")
        self.assertExact(self.parties("(a unless b)"), "cr")
        self.assertExact(self.parties("((a unless b) unless c)"), "crr")
        self.assertExact(self.parties("(a unless (b unless c))"), "crc")
        self.assertExact(self.parties("(a unless (b unless (c unless d)))"), "crcr")
        self.assertExact(self.parties("(a unless (b and (c or (d unless e))))"), "crrrc")

    def test_a_finding_that_an_issue_is_true_favours_its_party(self):
        draw = random.Random(80)
        for _ in range(200):
            many = draw.randint(1, 8)
            cause = draw_cause(draw, many)
            for number, issue in enumerate(issues_of(cause)):
                findings = "".join(draw.choice("01") for _ in range(many))
                one = is_true(cause, findings[:number] + "1" + findings[number + 1:])
                other = is_true(cause, findings[:number] + "0" + findings[number + 1:])
                if one != other:
                    self.assertExact(issue[3], WINNERS[one])


class Depths(ExactCase):

    def test_depths(self):
        self.assertExact(depth_of(read_cause("a")), 0)
        self.assertExact(depth_of(read_cause("(a or b)")), 1)
        self.assertExact(depth_of(read_cause("((a or b) or (c or d))")), 2)
        self.assertExact(depth_of(read_cause("(a or (b or (c or d)))")), 3)
        self.assertExact(depth_of(read_cause("(((a or b) or c) or d)")), 3)
        self.assertExact(depth_of(read_cause("(" * 7 + "a" + "".join(f" or {c})" for c in "bcdefgh"))), 7)


class Values(ExactCase):

    def test_an_issue(self):
        for letter, value in (("1", True), ("0", False), ("?", None)):
            self.assertExact(value_of(read_cause("a"), letter), value)
            self.assertExact(winner_by(read_cause("a"), letter), WINNERS[value])

    def test_every_row_of_the_table(self):
        for connective, rows in TABLE.items():
            cause = read_cause(f"(a {connective} b)")
            for row in rows:
                findings, expected = row.split(" ")
                value = value_of(cause, findings)
                self.assertExact(LETTERS[value], expected, (connective, findings))
                self.assertExact(winner_by(cause, findings), WINNERS[value])

    def test_every_row_of_the_table_for_formulas(self):
        letters = {"1": "(x or y)", "0": "(x and y)", "?": "(x unless y)"}
        findings_for = {"1": "1?", "0": "?0", "?": "1?"}
        for connective, rows in TABLE.items():
            for row in rows:
                first, second = letters[row[0]], letters[row[1]].replace("x", "v").replace("y", "w")
                cause = read_cause(f"({first} {connective} {second})")
                value = value_of(cause, findings_for[row[0]] + findings_for[row[1]])
                self.assertExact(LETTERS[value], row[3], (connective, row))

    def test_unless_nested_in_its_second_operand(self):
        cause = read_cause("(a unless (b unless c))")
        for findings, value in (("11?", None), ("111", True), ("110", False), ("10?", True), ("0??", False)):
            self.assertExact(value_of(cause, findings), value, findings)

    def test_drawn_causes(self):
        draw = random.Random(81)
        for _ in range(800):
            many = draw.randint(1, 8)
            cause, findings = draw_cause(draw, many), draw_findings(draw, many)
            expected = value_by_all(cause, findings)
            self.assertExact(value_of(cause, findings), expected, (cause, findings))
            self.assertExact(winner_by(cause, findings), WINNERS[expected], (cause, findings))
            self.assertIn(winner_by(cause, "1" * many), PARTIES)

    def test_depth_and_issues_of_drawn_causes(self):
        draw = random.Random(82)
        for _ in range(200):
            many = draw.randint(1, 8)
            cause = draw_cause(draw, many)
            parents = [one for one, _, _ in formulas_of(cause) if one[0] != "issue"]
            self.assertExact(len(issues_of(cause)), many)
            for parent in parents:
                self.assertExact(depth_of(parent), 1 + max(depth_of(parent[1]), depth_of(parent[2])))
            names = [one[1:] for one, _, _ in formulas_of(cause) if one[0] == "issue"]
            self.assertExact([issue[:3] for issue in issues_of(cause)], names)


if __name__ == "__main__":
    unittest.main()
