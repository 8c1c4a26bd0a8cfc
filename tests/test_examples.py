"""The examples of the interface, as they stand in the document."""

import doctest
import unittest

CALENDARS = """
>>> from overturn.calendars import business_day_after, count_business_days, is_business_day, next_business_day, previous_business_day
>>> calendar = ("0111110", (8,))
>>> is_business_day(calendar, 7), is_business_day(calendar, 8), is_business_day(calendar, 9)
(False, False, True)
>>> next_business_day(calendar, 6), previous_business_day(calendar, 8), previous_business_day(calendar, 0)
(9, 5, None)
>>> count_business_days(calendar, 5, 10), business_day_after(calendar, 7, 2), business_day_after(calendar, 7, 0)
(2, 10, 7)
"""

STAYS = """
>>> from overturn.stays import count_stayed_days, is_stayed, normal_stays
>>> normal_stays(((5, 6), (9, 3), (7, 7), (1, 2), (2, 3))), normal_stays(((6, 6), (4, 4)))
(((1, 3), (5, 7)), ((4, 4), (6, 6)))
>>> count_stayed_days(((1, 3), (2, 5)), 1, 4), is_stayed(((1, 3), (2, 5)), 1)
(3, True)
"""

TERMS = """
>>> from overturn.terms import count_counting_days, latest_start, term_end
>>> calendar = ("0111110", ())
>>> term_end(calendar, ((10, 10),), "calendar", 8, 3), term_end(calendar, ((10, 10),), "calendar", 8, 4)
(12, 15)
>>> term_end(calendar, ((10, 10),), "business", 8, 4), count_counting_days(calendar, ((10, 10),), "calendar", 8, 15)
(15, 6)
>>> latest_start(calendar, ((10, 10),), "calendar", 3, 12), latest_start(calendar, (), "business", 6, 6)
(8, None)
"""

SERVICE = """
>>> from overturn.service import decisive_attempts, effect_day, service_day
>>> rules = ("1111111", (), 5, 9, 3, 7, 4)
>>> attempts = ((4, "post", True), (5, "post", False), (9, "hand", False))
>>> service_day(rules, attempts), decisive_attempts(rules, attempts), effect_day(rules, (4, "post", True))
(8, (1,), 7)
>>> decisive_attempts(rules, ((6, "post", False), (9, "hand", False))), service_day(rules, ())
((), None)
"""


class Examples(unittest.TestCase):

    def check(self, *texts):
        """Run the examples one after another; the later ones see the names of the earlier ones."""
        test = doctest.DocTestParser().get_doctest("".join(texts), {}, self.id(), None, 0)
        report = []
        outcome = doctest.DocTestRunner(verbose=False).run(test, out=report.append)
        self.assertGreater(outcome.attempted, 0)
        self.assertEqual(outcome.failed, 0, "".join(report))

    def test_calendars(self):
        self.check(CALENDARS)

    def test_stays(self):
        self.check(STAYS)

    def test_terms(self):
        self.check(TERMS)

    def test_service(self):
        self.check(SERVICE)


if __name__ == "__main__":
    unittest.main()
