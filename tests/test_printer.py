"""Point 72: the printed form."""

import random
import unittest

from drawing import draw_cause
from exact import ExactCase
from overturn.printer import show_cause
from overturn.reader import read_cause


class PrintedForm(ExactCase):

    def test_each_kind_of_issue(self):
        self.assertExact(show_cause(("issue", "a", False, 0)), "a")
        self.assertExact(show_cause(("issue", "abcdefgh", False, 1)), "abcdefgh+")
        self.assertExact(show_cause(("issue", "a", False, 2)), "a*")
        self.assertExact(show_cause(("issue", "a", True, 0)), "a!")

    def test_each_connective(self):
        for connective in ("and", "or", "unless"):
            cause = (connective, ("issue", "b", False, 0), ("issue", "a", True, 0))
            self.assertExact(show_cause(cause), f"(b {connective} a!)")

    def test_no_spaces_but_those_beside_connectives(self):
        text = "((a and b+) unless ((c or d*) and e!))"
        self.assertExact(show_cause(read_cause("  ( (a and b+)unless(( c or d*)and e!)) ")), text)

    def test_reading_it_gives_the_cause_again(self):
        draw = random.Random(72)
        for _ in range(500):
            cause = draw_cause(draw, draw.randint(1, 8))
            text = show_cause(cause)
            self.assertExact(read_cause(text), cause)
            self.assertExact(show_cause(read_cause(text)), text)


if __name__ == "__main__":
    unittest.main()
