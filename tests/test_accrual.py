"""Point 192: interest."""

import random
import unittest
from fractions import Fraction

from exact import ExactCase
from overturn.accrual import days_until, interest_on


def interest_by_definition(amount, rate, days):
    """Return the interest, whole units only."""
    return int(Fraction(amount) * Fraction(rate, 10000) * Fraction(days, 365))


class Interest(ExactCase):

    def test_a_year(self):
        self.assertExact(interest_on(10000, 500, 365), 500)
        self.assertExact(interest_on(10000, 500, 364), 498)
        self.assertExact(interest_on(10000, 500, 366), 501)
        self.assertExact(interest_on(10000, 500, 730), 1000)

    def test_nothing(self):
        self.assertExact(interest_on(0, 1000, 1000), 0)
        self.assertExact(interest_on(100000, 0, 1000), 0)
        self.assertExact(interest_on(100000, 1000, 0), 0)

    def test_products_before_divisions(self):
        self.assertExact(interest_on(1, 1000, 3650), 1)
        self.assertExact(interest_on(1, 1000, 3649), 0)
        self.assertExact(interest_on(7, 3, 1000), 0)
        self.assertExact(interest_on(99999, 999, 1000), 27369)

    def test_a_fraction_of_a_unit_goes(self):
        self.assertExact(interest_on(100, 1000, 36), 0)
        self.assertExact(interest_on(100, 1000, 37), 1)

    def test_drawn_amounts(self):
        draw = random.Random(192)
        for _ in range(1000):
            amount, rate = draw.randint(0, 100000), draw.randint(0, 1000)
            days = draw.choice((draw.randint(0, 1000), 365, 0))
            expected = interest_by_definition(amount, rate, days)
            self.assertExact(interest_on(amount, rate, days), expected, (amount, rate, days))


class DaysUntil(ExactCase):

    def test_a_target_of_zero(self):
        for amount, rate in ((0, 0), (0, 500), (500, 0), (10000, 500)):
            self.assertExact(days_until(amount, rate, 0), 0)

    def test_a_target_that_is_never_reached(self):
        for amount, rate in ((0, 0), (0, 500), (500, 0)):
            self.assertExact(days_until(amount, rate, 1), None)
            self.assertExact(days_until(amount, rate, 100000), None)

    def test_the_day_on_which_the_target_is_reached(self):
        self.assertExact(days_until(10000, 500, 500), 365)
        self.assertExact(days_until(10000, 500, 501), 366)
        self.assertExact(days_until(10000, 500, 499), 365)
        self.assertExact(days_until(10000, 500, 498), 364)
        self.assertExact(days_until(100, 1000, 1), 37)

    def test_days_have_no_upper_limit(self):
        self.assertExact(days_until(1, 1, 100000), 365000000000)
        self.assertExact(days_until(3, 7, 100000), 17380952381)

    def test_one_day(self):
        self.assertExact(days_until(3650, 1000, 1), 1)
        self.assertExact(days_until(3649, 1000, 1), 2)

    def test_day_by_day(self):
        draw = random.Random(193)
        for _ in range(400):
            amount, rate = draw.randint(1, 100000), draw.randint(50, 1000)
            target = draw.randint(0, interest_by_definition(amount, rate, 400))
            day = 0
            while interest_by_definition(amount, rate, day) < target:
                day += 1
            self.assertExact(days_until(amount, rate, target), day, (amount, rate, target))

    def test_the_day_before(self):
        draw = random.Random(195)
        for _ in range(1000):
            amount, rate, target = draw.randint(1, 100000), draw.randint(1, 1000), draw.randint(1, 100000)
            day = days_until(amount, rate, target)
            self.assertLess(interest_on(amount, rate, day - 1), target, (amount, rate, target))
            self.assertGreaterEqual(interest_on(amount, rate, day), target, (amount, rate, target))


if __name__ == "__main__":
    unittest.main()
