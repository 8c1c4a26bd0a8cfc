"""Points 70, 71, 72 and 73: reading the texts of causes."""

import random
import unittest

from drawing import draw_cause
from exact import ExactCase
from overturn.errors import CauseError
from overturn.printer import show_cause
from overturn.reader import read_cause
from trees import issue_total

SUFFIXES = {(False, 0): "", (False, 1): "+", (False, 2): "*", (True, 0): "!"}
CONNECTIVES = ("and", "or", "unless")
ISSUES = ("a", "zz", "abcdefgh", "q!", "q+", "q*", "an", "ands", "unles", "issue", "orand")
OTHERS = ("!", "+", "*", "abcdefghi", "unlesssss", "A", "0", "?", "[", "~", "-", "_", '"', "\\", ",")


def fact(name):
    return "issue", name, False, 0


def labelled_tokens(cause, nested=0):
    """Return the tokens of a cause, each with what can stand there and the number of open parentheses."""
    if cause[0] == "issue":
        return [("issue", nested, cause[1] + SUFFIXES[cause[2:]])]
    tokens = [("issue", nested, "(")] + labelled_tokens(cause[1], nested + 1)
    tokens = tokens + [("connective", nested + 1, cause[0])] + labelled_tokens(cause[2], nested + 1)
    return tokens + [(")", nested + 1, ")")]


def spaced(draw, tokens):
    """Join tokens with any number of spaces, at least one where two would be read as one."""
    text = ""
    for token in tokens:
        least = 1 if text[-1:].isalpha() and (token[0].isalpha() or token[0] in "!+*") else 0
        text = text + " " * draw.choice((least, least, least + draw.randint(0, 3))) + token
    return text


class ReaderCase(ExactCase):

    def refuse(self, text, place, reason):
        with self.assertRaises(CauseError) as caught:
            read_cause(text)
        self.assertExact((caught.exception.place, caught.exception.reason), (place, reason), text)


class Causes(ReaderCase):

    def test_each_suffix(self):
        self.assertExact(read_cause("a"), ("issue", "a", False, 0))
        self.assertExact(read_cause("a+"), ("issue", "a", False, 1))
        self.assertExact(read_cause("a*"), ("issue", "a", False, 2))
        self.assertExact(read_cause("a!"), ("issue", "a", True, 0))

    def test_each_connective(self):
        for connective in CONNECTIVES:
            self.assertExact(read_cause(f"(b {connective} a)"), (connective, fact("b"), fact("a")))

    def test_names(self):
        for name in ("a", "z", "abcdefgh", "zzzzzzzz", "an", "ands", "andor", "unles", "oran", "issue"):
            self.assertExact(read_cause(name), fact(name))
        self.assertExact(read_cause("(ora or andx)"), ("or", fact("ora"), fact("andx")))

    def test_spaces(self):
        expected = ("and", ("issue", "a", True, 0), fact("b"))
        for text in ("(a! and b)", "  (  a!   and  b )  ", "(a!and b)", " (a! and b)"):
            self.assertExact(read_cause(text), expected)
        self.assertExact(read_cause("((a or b)and(c or d))")[0], "and")

    def test_nested_operands(self):
        expected = ("unless", ("or", fact("a"), fact("b")), ("and", fact("c"), fact("d")))
        self.assertExact(read_cause("((a or b) unless (c and d))"), expected)

    def test_seven_nested_parentheses_and_eight_issues(self):
        left = "(" * 7 + "a" + "".join(f" and {name})" for name in "bcdefgh")
        right = "".join(f"({name} or " for name in "bcdefgh") + "a" + ")" * 7
        for text in (left, right):
            cause = read_cause(text)
            self.assertExact(issue_total(cause), 8)
            self.assertExact(show_cause(cause), text)

    def test_drawn_causes_with_drawn_spaces(self):
        draw = random.Random(70)
        for _ in range(600):
            cause = draw_cause(draw, draw.randint(1, 8))
            tokens = [token for _, _, token in labelled_tokens(cause)]
            text = spaced(draw, tokens) + " " * draw.choice((0, 0, 2))
            self.assertExact(read_cause(text), cause, text)


class FirstTokenThatCannotStand(ReaderCase):

    def test_the_texts_that_the_interface_names(self):
        self.refuse("(a and b c)", 9, ")")
        self.refuse("(a! or a)", 7, "duplicate")
        self.refuse("a !", 2, "end")
        self.refuse("(a and! b)", 6, "issue")
        self.refuse("", 0, "issue")

    def test_blank_texts(self):
        self.refuse("", 0, "issue")
        self.refuse(" ", 1, "issue")
        self.refuse("   ", 3, "issue")

    def test_an_issue_is_required(self):
        self.refuse("and", 0, "issue")
        self.refuse(" )", 1, "issue")
        self.refuse("!", 0, "issue")
        self.refuse("(", 1, "issue")
        self.refuse("( ", 2, "issue")
        self.refuse("()", 1, "issue")
        self.refuse("(or b)", 1, "issue")
        self.refuse("(a and", 6, "issue")
        self.refuse("(a and  ", 8, "issue")
        self.refuse("(a and )", 7, "issue")
        self.refuse("(a and or)", 7, "issue")
        self.refuse("(a and A)", 7, "issue")

    def test_a_connective_is_required(self):
        self.refuse("(a", 2, "connective")
        self.refuse("(a  ", 4, "connective")
        self.refuse("(a)", 2, "connective")
        self.refuse("(a b)", 3, "connective")
        self.refuse("(a (b or c))", 3, "connective")
        self.refuse("((a or b) c)", 10, "connective")
        self.refuse("(a !and b)", 3, "connective")
        self.refuse("(a anda b)", 3, "connective")

    def test_a_closing_parenthesis_is_required(self):
        self.refuse("(a and b", 8, ")")
        self.refuse("(a and b   ", 11, ")")
        self.refuse("(a and b and c)", 9, ")")
        self.refuse("(a and b c)", 9, ")")
        self.refuse("(a and b (", 9, ")")
        self.refuse("(a and b!!)", 9, ")")
        self.refuse("((a and b) or c", 15, ")")

    def test_nothing_may_stand_behind_the_whole_cause(self):
        self.refuse("a b", 2, "end")
        self.refuse("a and b", 2, "end")
        self.refuse("a)", 1, "end")
        self.refuse("a(", 1, "end")
        self.refuse("a!+", 2, "end")
        self.refuse("(a and b) or c", 10, "end")
        self.refuse("(a and b))", 9, "end")
        self.refuse("(a and b)!", 9, "end")

    def test_the_eighth_nested_parenthesis(self):
        self.refuse("(" * 8, 7, "depth")
        self.refuse("(" * 7, 7, "issue")
        self.refuse("(" * 7 + " (a and b)", 8, "depth")
        self.refuse("(" * 100, 7, "depth")
        inner = "".join(f"({name} or " for name in "bcdefgh")
        self.refuse(inner + "(a and x)" + ")" * 7, len(inner), "depth")
        # Parentheses that are closed again do not count.
        self.refuse("((((((( a and b) and c) and d) and e) and f) and (((x or y)", 59, "connective")

    def test_a_word_that_is_too_long(self):
        self.refuse("abcdefghi", 0, "issue")
        self.refuse("(a and abcdefghi!)", 7, "issue")
        self.refuse("(a abcdefghi b)", 3, "connective")
        self.refuse("(abcdefgh! or abcdefgi)x", 23, "end")

    def test_a_suffix_behind_a_connective_or_behind_such_a_word(self):
        self.refuse("(a and! b)", 6, "issue")
        self.refuse("(a or+ b)", 5, "issue")
        self.refuse("(a unless* b)", 9, "issue")
        self.refuse("(a and b abcdefghi+)", 9, ")")
        self.refuse("or!", 0, "issue")

    def test_a_suffix_that_is_not_directly_behind_its_name(self):
        self.refuse("a !", 2, "end")
        self.refuse("(a + and b)", 3, "connective")

    def test_a_suffix_belongs_to_the_name_before_it_alone(self):
        self.refuse("a!b", 2, "end")
        self.refuse("a*!", 2, "end")

    def test_signs_that_are_no_letters(self):
        for sign in "ABZ0123456789_-?[]{}<>=,.;:'\"\\/|&^$#@`~":
            self.refuse(sign, 0, "issue")
            self.refuse("(a" + sign + "and b)", 2, "connective")
            self.refuse("a" + sign, 1, "end")

    def test_each_token_at_each_place(self):
        draw = random.Random(73)
        tokens = ISSUES + OTHERS + CONNECTIVES + ("(", ")", None)
        for _ in range(60):
            labels = labelled_tokens(draw_cause(draw, draw.randint(1, 8)))
            labels.append(("end", 0, ""))
            for at, (state, nested, _) in enumerate(labels):
                before = spaced(draw, [token for _, _, token in labels[:at]]) + " "
                for token in tokens:
                    self.check_token(draw, before, state, nested, token)

    def check_token(self, draw, before, state, nested, token):
        """Check what is told of the token, None for the end of the text, behind a text without faults."""
        if token is None:
            if state != "end":
                self.refuse(before, len(before), state)
            return
        reason = state
        if state == "issue" and (token in ISSUES or token == "("):
            reason = "depth" if token == "(" and nested == 7 else None
        if state == "connective" and token in CONNECTIVES or state == token == ")":
            reason = None
        if reason is not None:
            behind = draw.choice(("", " ", " and b)", "(", "))", " a"))
            self.refuse(before + token + behind, len(before), reason)


class Issues(ReaderCase):

    def test_the_ninth_issue(self):
        eight = "(((a or b) or (c or d)) or ((e or f) or (g or h)))"
        self.assertExact(issue_total(read_cause(eight)), 8)
        self.refuse(f"({eight} and i!)", len(eight) + 6, "many")
        self.refuse(f"({eight} and (i or (j or k)))", len(eight) + 7, "many")

    def test_the_ninth_issue_whatever_its_name_is(self):
        eight = "(((a or b) or (c or d)) or ((e or f) or (g or h)))"
        self.refuse(f"({eight} and a)", len(eight) + 6, "many")

    def test_an_earlier_duplicate_determines_the_error(self):
        eight = "(((a or b) or (c or d)) or ((e or f) or (g or a!)))"
        self.refuse(f"({eight} and a)", 1 + eight.index("a!"), "duplicate")

    def test_a_repeated_name_whatever_the_suffixes(self):
        for first in ("a", "a!", "a+", "a*"):
            for second in ("a", "a!", "a+", "a*"):
                self.refuse(f"({first} or {second})", len(first) + 5, "duplicate")
        self.refuse("((a or b) and (b! or a))", 15, "duplicate")

    def test_names_of_which_one_begins_with_the_other(self):
        self.assertExact(issue_total(read_cause("((a or aa) or (aaa or aaaaaaaa))")), 4)

    def test_issues_are_looked_at_only_in_a_text_without_another_error(self):
        self.refuse("(a or a", 7, ")")
        self.refuse("(a or a))", 8, "end")
        nine = "((((a or b) or (c or d)) or ((e or f) or (g or h))) or i)"
        self.refuse(nine, nine.index("i"), "many")
        self.refuse(nine + " i", len(nine) + 1, "end")

    def test_drawn_names(self):
        draw = random.Random(74)
        for _ in range(300):
            labels = labelled_tokens(draw_cause(draw, draw.randint(2, 8)))
            names, text, expected = [], "", None
            for _, _, token in labels:
                text = text + " "
                if token[0].isalpha() and token not in CONNECTIVES:
                    token = draw.choice("abcdefgh") * draw.choice((1, 1, 2)) + token[2:]
                    name = token.strip("!+*")
                    if name in names and expected is None:
                        expected = (len(text), "duplicate")
                    names.append(name)
                text = text + token
            if expected is None:
                self.assertExact(issue_total(read_cause(text)), len(names), text)
            else:
                self.refuse(text, *expected)


class AnyText(ReaderCase):

    def test_no_other_error_for_any_text(self):
        draw = random.Random(75)
        parts = ISSUES + OTHERS + CONNECTIVES + ("(", ")", "((", "))", " ", "  ", "(a and ", "and b)")
        for _ in range(4000):
            text = "".join(draw.choice(parts) for _ in range(draw.randint(0, 40)))[:200]
            self.check_text(text)

    def test_every_text_of_three_signs(self):
        signs = "(a! &"
        for text in (a + b + c for a in signs for b in signs for c in signs):
            self.check_text(text)

    def check_text(self, text):
        try:
            cause = read_cause(text)
        except CauseError as error:
            self.assertIn(error.place, range(len(text) + 1), text)
            self.assertIn(error.reason, ("issue", "depth", "connective", ")", "end", "many", "duplicate"), text)
        else:
            self.assertExact(read_cause(show_cause(cause)), cause, text)


if __name__ == "__main__":
    unittest.main()
