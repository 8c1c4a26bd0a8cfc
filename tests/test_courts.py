"""Points 130 and 131: courts, chains, common superiors and subordinates."""

import random
import unittest

from drawing import draw_hierarchy
from exact import ExactCase
from overturn.courts import appeal_chain, common_superior, subordinates


def courts_with(*superiors):
    """Return courts of which only the superiors differ."""
    return tuple((superior, 1, 1, True, 0, 5, False, 0) for superior in superiors)


def chain_by_definition(courts, court):
    """Return the chain of a court."""
    superior = courts[court][0]
    return (court,) if superior is None else (court,) + chain_by_definition(courts, superior)


class Chains(ExactCase):

    def test_a_court_without_a_superior(self):
        self.assertExact(appeal_chain(courts_with(None), 0), (0,))
        self.assertExact(appeal_chain(courts_with(None, None), 1), (1,))

    def test_the_court_itself_comes_first(self):
        courts = courts_with(None, 0, 1, 2, 3, 4)
        self.assertExact(appeal_chain(courts, 5), (5, 4, 3, 2, 1, 0))
        self.assertExact(appeal_chain(courts, 2), (2, 1, 0))
        self.assertExact(appeal_chain(courts, 0), (0,))

    def test_a_superior_that_is_not_the_court_before(self):
        courts = courts_with(None, None, 0, 1, 0, 3)
        self.assertExact([appeal_chain(courts, court) for court in range(6)],
                         [(0,), (1,), (2, 0), (3, 1), (4, 0), (5, 3, 1)])

    def test_drawn_courts(self):
        draw = random.Random(131)
        for _ in range(200):
            courts = draw_hierarchy(draw, draw.randint(1, 6))
            for court in range(len(courts)):
                self.assertExact(appeal_chain(courts, court), chain_by_definition(courts, court), courts)


class Subordinates(ExactCase):

    def test_a_court_is_its_own_subordinate(self):
        self.assertExact(subordinates(courts_with(None), 0), (0,))
        self.assertExact(subordinates(courts_with(None, 0), 1), (1,))

    def test_subordinates_of_subordinates(self):
        courts = courts_with(None, 0, 0, 1, 2, 3)
        self.assertExact(subordinates(courts, 0), (0, 1, 2, 3, 4, 5))
        self.assertExact(subordinates(courts, 1), (1, 3, 5))
        self.assertExact(subordinates(courts, 2), (2, 4))

    def test_several_highest_courts(self):
        courts = courts_with(None, None, 0, 1, 1)
        self.assertExact(subordinates(courts, 0), (0, 2))
        self.assertExact(subordinates(courts, 1), (1, 3, 4))

    def test_drawn_courts(self):
        draw = random.Random(132)
        for _ in range(200):
            courts = draw_hierarchy(draw, draw.randint(1, 6))
            for court in range(len(courts)):
                numbers = range(len(courts))
                expected = [one for one in numbers if court in chain_by_definition(courts, one)]
                self.assertExact(subordinates(courts, court), tuple(expected), (courts, court))


class CommonSuperiors(ExactCase):

    def test_one_of_the_two_courts(self):
        courts = courts_with(None, 0, 1, 2)
        self.assertExact(common_superior(courts, 1, 3), 1)
        self.assertExact(common_superior(courts, 3, 1), 1)
        self.assertExact(common_superior(courts, 0, 3), 0)

    def test_a_court_and_itself(self):
        courts = courts_with(None, 0, None)
        for court in range(3):
            self.assertExact(common_superior(courts, court, court), court)

    def test_the_first_one_of_several(self):
        courts = courts_with(None, 0, 1, 1, 2, 3)
        self.assertExact(common_superior(courts, 4, 5), 1)
        self.assertExact(common_superior(courts, 4, 3), 1)

    def test_there_is_none(self):
        courts = courts_with(None, None, 0, 1)
        self.assertExact(common_superior(courts, 0, 1), None)
        self.assertExact(common_superior(courts, 2, 3), None)
        self.assertExact(common_superior(courts, 2, 1), None)

    def test_drawn_courts(self):
        draw = random.Random(133)
        for _ in range(200):
            courts = draw_hierarchy(draw, draw.randint(1, 6))
            for first in range(len(courts)):
                for second in range(len(courts)):
                    chain = chain_by_definition(courts, first)
                    other = chain_by_definition(courts, second)
                    shared = [court for court in chain if court in other] + [None]
                    self.assertExact(common_superior(courts, first, second), shared[0], courts)


if __name__ == "__main__":
    unittest.main()
