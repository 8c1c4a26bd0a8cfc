"""Point 6: the errors, with their attributes."""

import inspect
import unittest

from exact import ExactCase
from overturn import errors
from overturn.errors import (
    BadConfig,
    CauseError,
    DayPassed,
    NothingToUndo,
    NotReversible,
    OverturnError,
    TwoWays,
)

LEAVES = (CauseError, TwoWays, BadConfig, NotReversible, DayPassed, NothingToUndo)


class Errors(ExactCase):

    def test_the_base_class_is_a_value_error(self):
        self.assertExact(OverturnError.__bases__, (ValueError,))

    def test_every_other_class_is_a_direct_subclass(self):
        for leaf in LEAVES:
            self.assertExact(leaf.__bases__, (OverturnError,))

    def test_there_are_no_other_classes(self):
        found = [one for _, one in inspect.getmembers(errors, inspect.isclass)]
        self.assertExact(sorted(map(repr, found)), sorted(map(repr, LEAVES + (OverturnError,))))

    def test_attributes_are_set_when_an_error_is_created(self):
        error = CauseError(9, ")")
        self.assertExact((error.place, error.reason), (9, ")"))
        self.assertExact(TwoWays(3).number, 3)
        self.assertExact(BadConfig((("bench", 0),)).errors, (("bench", 0),))

    def test_the_others_have_no_attributes(self):
        for leaf in (NotReversible, DayPassed, NothingToUndo):
            self.assertExact(vars(leaf("why")), {})

    def test_an_error_can_be_caught_by_its_base_class(self):
        for error in (CauseError(0, "issue"), TwoWays(0), BadConfig(()), DayPassed("why")):
            with self.assertRaises(OverturnError):
                raise error


if __name__ == "__main__":
    unittest.main()
