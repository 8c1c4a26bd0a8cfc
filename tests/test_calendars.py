"""Points 20 and 21: calendars."""

import random
import unittest

from days import business_days
from drawing import draw_calendar
from exact import ExactCase
from overturn.calendars import (
    business_day_after,
    count_business_days,
    is_business_day,
    next_business_day,
    previous_business_day,
)

LIMIT = 600
WORKDAYS = ("0111110", (8,))
ONE_DAY = ("0001000", (3, 10, 24))


class BusinessDays(ExactCase):

    def test_week_and_closed_days(self):
        days = [day for day in range(20) if is_business_day(WORKDAYS, day)]
        self.assertExact(days, [1, 2, 3, 4, 5, 9, 10, 11, 12, 15, 16, 17, 18, 19])

    def test_results_are_truths(self):
        self.assertExact(is_business_day(WORKDAYS, 1), True)
        self.assertExact(is_business_day(WORKDAYS, 7), False)
        self.assertExact(is_business_day(WORKDAYS, 8), False)

    def test_first_and_last_character_of_the_week(self):
        self.assertExact([day for day in range(15) if is_business_day(("1000000", ()), day)], [0, 7, 14])
        self.assertExact([day for day in range(15) if is_business_day(("0000001", ()), day)], [6, 13])

    def test_drawn_calendars(self):
        draw = random.Random(20)
        for _ in range(60):
            calendar = draw_calendar(draw)
            expected = business_days(calendar, LIMIT)
            found = [day for day in range(LIMIT) if is_business_day(calendar, day)]
            self.assertExact(found, expected, calendar)


class NearestBusinessDays(ExactCase):

    def test_a_business_day_is_its_own_next_and_previous_one(self):
        self.assertExact(next_business_day(WORKDAYS, 5), 5)
        self.assertExact(previous_business_day(WORKDAYS, 5), 5)
        self.assertExact(previous_business_day(("1111111", ()), 0), 0)

    def test_over_a_week_end_and_a_closed_day(self):
        self.assertExact(next_business_day(WORKDAYS, 6), 9)
        self.assertExact(previous_business_day(WORKDAYS, 8), 5)

    def test_no_business_day_from_day_0_on(self):
        self.assertExact(previous_business_day(WORKDAYS, 0), None)
        self.assertExact(previous_business_day(ONE_DAY, 16), None)
        self.assertExact(previous_business_day(ONE_DAY, 17), 17)
        self.assertExact(previous_business_day(("0000001", ()), 5), None)

    def test_days_behind_400(self):
        self.assertExact(next_business_day(WORKDAYS, 699), 701)
        self.assertExact(next_business_day(WORKDAYS, 7006), 7008)
        self.assertExact(previous_business_day(WORKDAYS, 7007), 7005)

    def test_drawn_calendars(self):
        draw = random.Random(21)
        for _ in range(40):
            calendar = draw_calendar(draw)
            days = business_days(calendar, LIMIT)
            for day in list(range(90)) + [399, 400, 401, 450]:
                self.assertExact(next_business_day(calendar, day), min(d for d in days if d >= day))
                before = [d for d in days if d <= day]
                self.assertExact(previous_business_day(calendar, day), max(before) if before else None)


class CountedBusinessDays(ExactCase):

    def test_the_first_day_is_not_counted_and_the_last_one_is(self):
        self.assertExact(count_business_days(WORKDAYS, 1, 4), 3)
        self.assertExact(count_business_days(WORKDAYS, 5, 10), 2)

    def test_a_second_day_that_is_not_greater(self):
        self.assertExact(count_business_days(WORKDAYS, 3, 3), 0)
        self.assertExact(count_business_days(WORKDAYS, 12, 1), 0)

    def test_drawn_calendars(self):
        draw = random.Random(22)
        for _ in range(300):
            calendar = draw_calendar(draw)
            first, last = draw.randint(0, 450), draw.randint(0, 450)
            expected = [day for day in business_days(calendar, LIMIT) if first < day <= last]
            self.assertExact(count_business_days(calendar, first, last), len(expected))


class BusinessDaysAfter(ExactCase):

    def test_for_0_it_is_the_day_itself(self):
        self.assertExact(business_day_after(WORKDAYS, 7, 0), 7)
        self.assertExact(business_day_after(WORKDAYS, 5, 0), 5)

    def test_the_day_itself_is_not_among_those_behind_it(self):
        self.assertExact(business_day_after(WORKDAYS, 5, 1), 9)
        self.assertExact(business_day_after(WORKDAYS, 7, 2), 10)

    def test_60_days_end_behind_day_400(self):
        self.assertExact(business_day_after(ONE_DAY, 400, 60), 815)

    def test_drawn_calendars(self):
        draw = random.Random(23)
        for _ in range(150):
            calendar = draw_calendar(draw)
            day, many = draw.choice((draw.randint(0, 60), draw.randint(0, 500))), draw.randint(1, 60)
            behind = [d for d in business_days(calendar, 1200) if d > day]
            self.assertExact(business_day_after(calendar, day, many), behind[many - 1])


if __name__ == "__main__":
    unittest.main()
