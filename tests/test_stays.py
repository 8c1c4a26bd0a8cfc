"""Point 22: stays."""

import random
import unittest

from days import stayed_days
from drawing import draw_stays
from exact import ExactCase
from overturn.stays import count_stayed_days, is_stayed, normal_stays


class StayedDays(ExactCase):

    def test_first_and_last_day_are_included(self):
        found = [day for day in range(8) if is_stayed(((3, 5),), day)]
        self.assertExact(found, [3, 4, 5])
        self.assertExact(is_stayed(((3, 3),), 3), True)

    def test_no_stays_and_empty_ones(self):
        self.assertExact(is_stayed((), 0), False)
        self.assertExact([is_stayed(((5, 4), (9, 3)), day) for day in range(12)], [False] * 12)

    def test_drawn_stays(self):
        draw = random.Random(24)
        for _ in range(200):
            stays = draw_stays(draw)
            stayed = stayed_days(stays)
            found = [day for day in range(100) if is_stayed(stays, day)]
            self.assertExact(found, sorted(stayed), stays)


class NormalForm(ExactCase):

    def test_no_stayed_day(self):
        self.assertExact(normal_stays(()), ())
        self.assertExact(normal_stays(((4, 3), (7, 0))), ())

    def test_stays_that_touch_are_merged(self):
        self.assertExact(normal_stays(((3, 4), (1, 2))), ((1, 4),))
        self.assertExact(normal_stays(((1, 2), (4, 5))), ((1, 2), (4, 5)))

    def test_equal_overlapping_and_contained_stays(self):
        self.assertExact(normal_stays(((1, 9), (1, 9))), ((1, 9),))
        self.assertExact(normal_stays(((5, 12), (1, 9))), ((1, 12),))
        self.assertExact(normal_stays(((1, 20), (3, 4), (6, 7))), ((1, 20),))
        self.assertExact(normal_stays(((1, 20), (3, 4), (21, 22))), ((1, 22),))

    def test_an_empty_stay_merges_nothing(self):
        self.assertExact(normal_stays(((1, 2), (3, 2), (4, 5))), ((1, 2), (4, 5)))
        self.assertExact(normal_stays(((1, 2), (3, 0), (4, 5))), ((1, 2), (4, 5)))

    def test_drawn_stays(self):
        draw = random.Random(25)
        for _ in range(1500):
            stays = draw_stays(draw)
            normal = normal_stays(stays)
            self.assertIs(type(normal), tuple)
            self.assertExact(sorted(stayed_days(normal)), sorted(stayed_days(stays)), stays)
            self.assertTrue(all(type(stay) is tuple and stay[0] <= stay[1] for stay in normal), stays)
            for before, behind in zip(normal, normal[1:]):
                self.assertLess(before[1] + 1, behind[0], stays)
            self.assertExact(normal_stays(normal), normal)


class CountedStayedDays(ExactCase):

    def test_the_first_day_is_not_counted_and_the_last_one_is(self):
        self.assertExact(count_stayed_days(((3, 6),), 3, 6), 3)
        self.assertExact(count_stayed_days(((3, 6),), 2, 6), 4)
        self.assertExact(count_stayed_days(((3, 6),), 2, 5), 3)

    def test_a_day_in_several_stays_is_counted_once(self):
        self.assertExact(count_stayed_days(((3, 6), (3, 6), (5, 8)), 0, 20), 6)

    def test_a_second_day_that_is_not_greater(self):
        self.assertExact(count_stayed_days(((0, 50),), 9, 9), 0)
        self.assertExact(count_stayed_days(((0, 50),), 30, 9), 0)

    def test_days_behind_400(self):
        self.assertExact(count_stayed_days(((390, 1000),), 395, 2000), 605)

    def test_drawn_stays(self):
        draw = random.Random(26)
        for _ in range(1500):
            stays = draw_stays(draw)
            first, last = draw.randint(0, 90), draw.randint(0, 90)
            expected = [day for day in stayed_days(stays) if first < day <= last]
            self.assertExact(count_stayed_days(stays, first, last), len(expected), stays)


if __name__ == "__main__":
    unittest.main()
