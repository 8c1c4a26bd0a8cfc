"""Points 30, 31 and 32: terms."""

import random
import unittest

from days import business_days, stayed_days, term_end_by_definition
from drawing import draw_calendar, draw_stays
from exact import ExactCase
from overturn.terms import count_counting_days, latest_start, term_end

KINDS = ("calendar", "business")
WORKDAYS = ("0111110", ())
EVERY_DAY = ("1111111", ())


class CountingDays(ExactCase):

    def test_each_kind_without_stays(self):
        self.assertExact(count_counting_days(WORKDAYS, (), "calendar", 0, 14), 14)
        self.assertExact(count_counting_days(WORKDAYS, (), "business", 0, 14), 10)

    def test_each_kind_with_stays(self):
        stays = ((5, 7), (1, 0))
        self.assertExact(count_counting_days(WORKDAYS, stays, "calendar", 0, 14), 11)
        self.assertExact(count_counting_days(WORKDAYS, stays, "business", 0, 14), 9)

    def test_a_second_day_that_is_not_greater(self):
        for kind in KINDS:
            self.assertExact(count_counting_days(WORKDAYS, (), kind, 3, 3), 0)
            self.assertExact(count_counting_days(WORKDAYS, (), kind, 9, 3), 0)

    def test_drawn_terms(self):
        draw = random.Random(30)
        for _ in range(400):
            calendar, stays = draw_calendar(draw), draw_stays(draw)
            first, last = draw.randint(0, 80), draw.choice((draw.randint(0, 80), 450))
            days = [day for day in range(first + 1, last + 1) if day not in stayed_days(stays)]
            business = business_days(calendar, 500)
            found = count_counting_days(calendar, stays, "calendar", first, last)
            self.assertExact(found, len(days))
            found = count_counting_days(calendar, stays, "business", first, last)
            self.assertExact(found, len([day for day in days if day in business]))


class TermEnds(ExactCase):

    def test_each_kind_without_stays(self):
        self.assertExact(term_end(WORKDAYS, (), "calendar", 1, 4), 5)
        self.assertExact(term_end(WORKDAYS, (), "calendar", 1, 5), 8)
        self.assertExact(term_end(WORKDAYS, (), "business", 1, 4), 5)
        self.assertExact(term_end(WORKDAYS, (), "business", 1, 5), 8)
        self.assertExact(term_end(WORKDAYS, (), "business", 1, 6), 9)

    def test_each_kind_with_stays(self):
        stays = ((3, 3), (9, 10), (10, 11))
        self.assertExact(term_end(WORKDAYS, stays, "calendar", 1, 4), 8)
        self.assertExact(term_end(WORKDAYS, stays, "calendar", 1, 7), 12)
        self.assertExact(term_end(WORKDAYS, stays, "business", 1, 4), 8)
        self.assertExact(term_end(WORKDAYS, stays, "business", 1, 5), 12)

    def test_the_day_of_the_beginning_does_not_count(self):
        self.assertExact(term_end(EVERY_DAY, (), "calendar", 0, 1), 1)
        self.assertExact(term_end(EVERY_DAY, (), "business", 5, 1), 6)

    def test_a_term_does_not_end_within_a_stay(self):
        self.assertExact(term_end(EVERY_DAY, ((4, 8),), "calendar", 0, 3), 3)
        self.assertExact(term_end(EVERY_DAY, ((4, 8),), "calendar", 0, 4), 9)
        self.assertExact(term_end(WORKDAYS, ((8, 8),), "calendar", 0, 6), 9)

    def test_days_behind_400(self):
        self.assertExact(term_end(WORKDAYS, (), "business", 400, 60), 484)
        self.assertExact(term_end(WORKDAYS, ((1000, 1000),), "calendar", 998, 2), 1002)

    def test_drawn_terms(self):
        draw = random.Random(31)
        for _ in range(400):
            calendar, stays, kind = draw_calendar(draw), draw_stays(draw), draw.choice(KINDS)
            begin = draw.choice((draw.randint(0, 70), draw.randint(380, 900)))
            days = draw.choice((draw.randint(1, 6), draw.randint(1, 60)))
            expected = term_end_by_definition(calendar, stays, kind, begin, days)
            found = term_end(calendar, stays, kind, begin, days)
            self.assertExact(found, expected, (calendar, stays, kind, begin, days))

    def test_a_business_term_ends_on_its_last_counting_day(self):
        draw = random.Random(32)
        for _ in range(200):
            calendar, stays = draw_calendar(draw), draw_stays(draw)
            begin, days = draw.randint(0, 60), draw.randint(1, 60)
            end = term_end(calendar, stays, "business", begin, days)
            self.assertExact(count_counting_days(calendar, stays, "business", begin, end), days)
            self.assertExact(count_counting_days(calendar, stays, "business", begin, end - 1), days - 1)


class LatestStarts(ExactCase):

    def latest_by_definition(self, calendar, stays, kind, days, day):
        ends = ((term_end(calendar, stays, kind, start, days), start) for start in range(day + 1))
        starts = [start for end, start in ends if end <= day]
        return max(starts) if starts else None

    def test_each_kind(self):
        self.assertExact(latest_start(WORKDAYS, (), "calendar", 5, 13), 7)
        self.assertExact(latest_start(WORKDAYS, (), "business", 6, 13), 4)
        self.assertExact(latest_start(WORKDAYS, ((10, 11),), "calendar", 5, 13), 5)
        self.assertExact(latest_start(WORKDAYS, ((11, 14),), "business", 3, 13), 7)

    def test_no_latest_start(self):
        for kind in KINDS:
            self.assertExact(latest_start(EVERY_DAY, (), kind, 1, 0), None)
            self.assertExact(latest_start(EVERY_DAY, (), kind, 5, 4), None)
            self.assertExact(latest_start(EVERY_DAY, (), kind, 4, 4), 0)
            self.assertExact(latest_start(EVERY_DAY, ((0, 30),), kind, 1, 30), None)
            self.assertExact(latest_start(EVERY_DAY, ((0, 30),), kind, 1, 31), 30)
            self.assertExact(latest_start(("0000001", ()), (), kind, 1, 5), None)

    def test_day_0_is_no_end_and_does_not_count(self):
        self.assertExact(latest_start(("1000000", ()), (), "calendar", 1, 6), None)
        self.assertExact(latest_start(("1000000", ()), (), "calendar", 7, 7), 0)
        self.assertExact(latest_start(("1000000", ()), (), "calendar", 8, 7), None)

    def test_days_behind_400(self):
        self.assertExact(latest_start(WORKDAYS, (), "business", 60, 484), 400)
        self.assertExact(latest_start(EVERY_DAY, ((990, 995),), "calendar", 3, 997), 988)

    def test_drawn_terms(self):
        draw = random.Random(33)
        for _ in range(250):
            calendar, stays, kind = draw_calendar(draw), draw_stays(draw), draw.choice(KINDS)
            days, day = draw.choice((draw.randint(1, 8), draw.randint(1, 60))), draw.randint(0, 90)
            expected = self.latest_by_definition(calendar, stays, kind, days, day)
            found = latest_start(calendar, stays, kind, days, day)
            self.assertExact(found, expected, (calendar, stays, kind, days, day))


if __name__ == "__main__":
    unittest.main()
