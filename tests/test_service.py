"""Points 40 and 41: service of documents."""

import random
import unittest

from days import effect_by_definition, service_by_definition
from drawing import draw_attempts, draw_rules
from exact import ExactCase
from overturn.service import decisive_attempts, effect_day, service_day

EVERY_DAY = ("1111111", (), 5, 9, 3, 7, 4)
WORKDAYS = ("0111110", (8,), 5, 9, 3, 7, 4)


class Effects(ExactCase):

    def test_each_method(self):
        self.assertExact(effect_day(EVERY_DAY, (20, "hand", False)), 20)
        self.assertExact(effect_day(EVERY_DAY, (20, "post", False)), 23)
        self.assertExact(effect_day(EVERY_DAY, (20, "notice", False)), 27)

    def test_the_next_business_day(self):
        self.assertExact(effect_day(WORKDAYS, (6, "hand", False)), 9)
        self.assertExact(effect_day(WORKDAYS, (2, "post", False)), 5)
        self.assertExact(effect_day(WORKDAYS, (5, "post", False)), 9)
        self.assertExact(effect_day(WORKDAYS, (0, "notice", False)), 9)

    def test_an_undelivered_attempt_has_its_day_too(self):
        for method in ("hand", "post", "notice"):
            delivered = effect_day(WORKDAYS, (6, method, False))
            self.assertExact(effect_day(WORKDAYS, (6, method, True)), delivered)

    def test_no_delay(self):
        rules = ("0111110", (), 1, 1, 0, 0, 1)
        for method in ("hand", "post", "notice"):
            self.assertExact(effect_day(rules, (6, method, False)), 8)

    def test_days_behind_400(self):
        self.assertExact(effect_day(WORKDAYS, (698, "post", False)), 701)

    def test_drawn_attempts(self):
        draw = random.Random(40)
        for _ in range(400):
            rules = draw_rules(draw)
            for attempt in draw_attempts(draw):
                self.assertExact(effect_day(rules, attempt), effect_by_definition(rules, attempt))


class Service(ExactCase):

    def test_no_attempts(self):
        self.assertExact(service_day(EVERY_DAY, ()), None)
        self.assertExact(decisive_attempts(EVERY_DAY, ()), ())

    def test_every_attempt_undelivered(self):
        attempts = ((1, "hand", True), (2, "post", True), (3, "notice", True))
        self.assertExact(service_day(EVERY_DAY, attempts), None)
        self.assertExact(decisive_attempts(EVERY_DAY, attempts), ())

    def test_the_least_day_counts_whatever_the_order(self):
        attempts = ((30, "hand", False), (12, "post", False), (10, "notice", False))
        self.assertExact(service_day(EVERY_DAY, attempts), 15)
        self.assertExact(decisive_attempts(EVERY_DAY, attempts), (1,))
        self.assertExact(decisive_attempts(EVERY_DAY, attempts[::-1]), (1,))
        self.assertExact(decisive_attempts(EVERY_DAY, attempts[1:]), (0,))

    def test_an_undelivered_attempt_serves_nobody(self):
        attempts = ((1, "hand", True), (9, "hand", False))
        self.assertExact(service_day(EVERY_DAY, attempts), 9)
        self.assertExact(decisive_attempts(EVERY_DAY, attempts), (1,))

    def test_two_attempts_that_take_effect_on_the_same_day(self):
        attempts = ((6, "hand", False), (9, "hand", False))
        self.assertExact(service_day(WORKDAYS, attempts), 9)
        self.assertExact(decisive_attempts(WORKDAYS, attempts), ())

    def test_an_undelivered_one_on_the_same_day_does_not_matter(self):
        attempts = ((6, "hand", True), (9, "hand", False))
        self.assertExact(decisive_attempts(WORKDAYS, attempts), (1,))

    def test_the_only_attempt_is_decisive(self):
        self.assertExact(decisive_attempts(WORKDAYS, ((0, "notice", False),)), (0,))

    def test_drawn_attempts(self):
        draw = random.Random(41)
        for _ in range(1000):
            rules, attempts = draw_rules(draw), draw_attempts(draw, draw.choice((6, 60)))
            served = service_by_definition(rules, attempts)
            self.assertExact(service_day(rules, attempts), served)
            decisive = []
            for number in range(len(attempts)):
                rest = [one for index, one in enumerate(attempts) if index != number]
                without = service_by_definition(rules, rest)
                if served is not None and (without is None or without > served):
                    decisive.append(number)
            self.assertLessEqual(len(decisive), 1)
            self.assertExact(decisive_attempts(rules, attempts), tuple(decisive), (rules, attempts))


if __name__ == "__main__":
    unittest.main()
