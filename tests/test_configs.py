"""Point 180: configurations and their errors."""

import random
import unittest

from drawing import draw_jurisdiction
from exact import ExactCase
from overturn.configs import check_config, config_errors
from overturn.errors import BadConfig, OverturnError
from overturn.jurisdiction import first_gap, first_overlap
from overturn.reader import read_cause

EVERY = (0, 1, 2, 3)
WHOLE = (EVERY, 0, None, 0)
RULES = ("1111111", (), 7, 30, 3, 14, 10)


def court_with(superior, bench=1, full_bench=1):
    return (superior, bench, full_bench, True, 0, 5, False, 0)


def config_with(courts, jurisdiction):
    return (RULES, 1, 1000, tuple(courts), (read_cause("a"),), tuple(jurisdiction))


def errors_by_definition(courts, jurisdiction):
    """Return the errors of a configuration, by the points of the document one after another."""
    errors = []
    for number in range(len(courts)):
        superior, bench, full_bench = courts[number][:3]
        if superior not in (None, *range(number)):
            errors.append(("superior", number))
        if full_bench < bench:
            errors.append(("bench", number))
    named = [rule[3] for rule in jurisdiction]
    errors.extend(("court", number) for number, court in enumerate(named) if court not in range(len(courts)))
    if max(named) < len(courts):
        for word, pair in (("gap", first_gap(jurisdiction)), ("overlap", first_overlap(jurisdiction))):
            if pair is not None:
                errors.append((word, pair))
    return tuple(errors)


class Errors(ExactCase):

    def check(self, courts, jurisdiction, *expected):
        config = config_with(courts, jurisdiction)
        self.assertExact(config_errors(config), expected, config)
        if not expected:
            self.assertExact(check_config(config), None, config)
            return
        with self.assertRaises(BadConfig) as caught:
            check_config(config)
        self.assertExact(caught.exception.errors, expected, config)
        self.assertIsInstance(caught.exception, OverturnError)

    def test_a_valid_configuration(self):
        self.check([court_with(None)], [WHOLE])
        self.check([court_with(None), court_with(0), court_with(1)], [WHOLE])
        self.check([court_with(None), court_with(None)], [(EVERY, 0, 9, 1), (EVERY, 10, None, 0)])

    def test_a_superior_that_is_not_less(self):
        self.check([court_with(0)], [WHOLE], ("superior", 0))
        self.check([court_with(1), court_with(None)], [WHOLE], ("superior", 0))
        self.check([court_with(None), court_with(1)], [WHOLE], ("superior", 1))
        self.check([court_with(None), court_with(2), court_with(0)], [WHOLE], ("superior", 1))
        self.check([court_with(None), court_with(9)], [WHOLE], ("superior", 1))
        self.check([court_with(1), court_with(0)], [WHOLE], ("superior", 0))

    def test_a_full_bench_that_is_less(self):
        self.check([court_with(None, 2, 1)], [WHOLE], ("bench", 0))
        self.check([court_with(None, 2, 2)], [WHOLE])
        self.check([court_with(None, 2, 3), court_with(0, 5, 4)], [WHOLE], ("bench", 1))

    def test_a_court_that_does_not_exist(self):
        self.check([court_with(None)], [(EVERY, 0, None, 1)], ("court", 0))
        self.check([court_with(None)], [(EVERY, 0, None, 9)], ("court", 0))
        self.check([court_with(None), court_with(0)], [(EVERY, 0, 5, 1), (EVERY, 6, None, 2)], ("court", 1))

    def test_a_gap(self):
        self.check([court_with(None)], [((0, 1, 2), 0, None, 0)], ("gap", (3, 0)))
        self.check([court_with(None)], [(EVERY, 0, 100000, 0)], ("gap", (0, 100001)))

    def test_an_overlap(self):
        self.check([court_with(None)], [WHOLE, ((2,), 7, 7, 0)], ("overlap", (2, 7)))

    def test_gap_and_overlap(self):
        rules = [((0, 1, 2), 0, None, 0), ((0,), 5, None, 0)]
        self.check([court_with(None)], rules, ("gap", (3, 0)), ("overlap", (0, 5)))

    def test_gap_and_overlap_are_looked_for_only_if_every_court_exists(self):
        rules = [((0, 1, 2), 0, None, 0), ((0,), 5, None, 1)]
        self.check([court_with(None)], rules, ("court", 1))
        self.check([court_with(None), court_with(0)], rules, ("gap", (3, 0)), ("overlap", (0, 5)))

    def test_they_are_looked_for_also_if_the_courts_have_errors(self):
        expected = (("superior", 0), ("bench", 0), ("gap", (3, 0)))
        self.check([court_with(0, 2, 1)], [((0, 1, 2), 0, None, 0)], *expected)

    def test_several_errors_in_their_order(self):
        courts = [court_with(0, 2, 1), court_with(None, 3, 3), court_with(5, 5, 9), court_with(0, 4, 1)]
        rules = [(EVERY, 5, 9, 4), (EVERY, 0, None, 3), (EVERY, 0, None, 7)]
        courts_alone = (("superior", 0), ("bench", 0), ("superior", 2), ("bench", 3))
        self.check(courts, rules, *courts_alone, ("court", 0), ("court", 2))
        rules = [(EVERY, 5, 9, 3), ((0, 1), 0, None, 3)]
        self.check(courts, rules, *courts_alone, ("gap", (2, 0)), ("overlap", (0, 5)))

    def test_the_other_parts_do_not_matter(self):
        config = config_with([court_with(0)], [WHOLE])
        changed = (("0000001", (3,), 1, 1, 0, 0, 1), 3, 0, config[3], (read_cause("(a or b)"),) * 3, config[5])
        self.assertExact(config_errors(changed), (("superior", 0),))

    def test_drawn_configurations(self):
        draw = random.Random(180)
        valid = 0
        for _ in range(2000):
            courts = []
            for number in range(draw.randint(1, 6)):
                superior = draw.choice((None, *range(number), *range(number), draw.randint(0, 9)))
                courts.append(court_with(superior, draw.randint(1, 2), draw.choice((2, 9, draw.randint(1, 5)))))
            rules = draw.choice(((WHOLE,), draw_jurisdiction(draw, 9)))
            rules = [rule[:3] + (draw.choice((0, rule[3])),) for rule in rules]
            expected = errors_by_definition(courts, rules)
            self.check(courts, rules, *expected)
            valid += expected == ()
        self.assertGreater(valid, 50)


if __name__ == "__main__":
    unittest.main()
