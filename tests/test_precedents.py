"""Points 160 and 161: precedents."""

import random
import unittest

from drawing import draw_precedents, draw_tags
from exact import ExactCase
from overturn.precedents import controlling_precedent, distinguished, record_precedent


def precedent(court, finding, tags=(), cause=2, issue=1):
    """Return a precedent on the issue 1 of the cause 2."""
    return (5, 0, issue, cause, court, finding, tags)


def controlling_by_definition(chain, precedents, cause, issue, tags):
    """Return the controlling precedent by the definition."""
    applying = []
    for index, (_, _, own_issue, own_cause, court, finding, required) in enumerate(precedents):
        on_issue = (own_cause, own_issue) == (cause, issue) and court in chain
        if on_issue and set(required) <= set(tags):
            applying.append((chain.index(court), index, finding))
    if not applying:
        return None
    level, _, finding = max(applying)
    return level, finding


def distinguished_by_definition(chain, precedents, cause, issue, tags):
    """Return the distinguished precedents by the definition."""
    found = []
    for index, (_, _, own_issue, own_cause, court, _, required) in enumerate(precedents):
        missing = set(required) - set(tags)
        if own_cause == cause and own_issue == issue and court in chain and missing:
            found.append((index, tuple(sorted(missing))))
    return tuple(found)


class Controlling(ExactCase):

    def check(self, precedents, expected, tags=(), chain=(2, 1, 0)):
        found = controlling_precedent(chain, precedents, 2, 1, tags)
        self.assertExact(found, expected, (precedents, tags, chain))

    def test_there_is_none(self):
        self.check((), None)

    def test_one_of_each_court(self):
        self.check((precedent(2, True),), (0, True))
        self.check((precedent(1, False),), (1, False))
        self.check((precedent(0, True),), (2, True))

    def test_another_cause_or_issue(self):
        self.check((precedent(1, True, cause=1),), None)
        self.check((precedent(1, True, issue=2),), None)
        self.check((precedent(1, True, cause=1, issue=2),), None)

    def test_a_court_that_is_not_in_the_chain(self):
        self.check((precedent(3, True), precedent(9, True)), None)
        self.check((precedent(1, False), precedent(3, True)), (1, False))

    def test_the_highest_level_controls_and_not_the_greatest_court(self):
        self.check((precedent(0, False), precedent(2, True)), (2, False))
        self.check((precedent(2, True), precedent(0, False)), (2, False))
        self.check((precedent(7, True), precedent(3, False)), (1, True), chain=(3, 7))
        self.check((precedent(7, True), precedent(3, False)), (1, False), chain=(7, 3))

    def test_the_later_one_of_two_of_one_court(self):
        self.check((precedent(1, False), precedent(1, True)), (1, True))
        self.check((precedent(1, True), precedent(1, False), precedent(2, True)), (1, False))

    def test_tags_that_are_required(self):
        self.check((precedent(1, True, (4,)),), None)
        self.check((precedent(1, True, (4,)),), (1, True), tags=(4,))
        self.check((precedent(1, True, (4, 7)),), None, tags=(4,))
        self.check((precedent(1, True, (4, 7)),), None, tags=(7,))
        self.check((precedent(1, True, (4, 7)),), (1, True), tags=(4, 5, 7))

    def test_tags_of_the_case_alone_do_not_distinguish_it(self):
        self.check((precedent(1, True),), (1, True), tags=(1, 2, 3, 4))

    def test_one_that_does_not_apply_does_not_control(self):
        self.check((precedent(2, True), precedent(0, False, (3,))), (0, True), tags=(4,))
        self.check((precedent(1, True), precedent(1, False, (3,))), (1, True))
        self.check((precedent(1, True), precedent(1, False, (3,))), (1, False), tags=(3,))

    def test_the_claim_and_the_case_do_not_matter(self):
        self.check(((99, 9, 1, 2, 1, True, ()),), (1, True))

    def test_more_than_twelve(self):
        precedents = tuple((case, 0, 1, 2, 1, case == 29, ()) for case in range(30))
        self.check(precedents, (1, True))

    def test_drawn_precedents(self):
        draw = random.Random(160)
        outcomes = []
        for _ in range(2000):
            precedents = draw_precedents(draw, draw.randint(0, 12))
            chain = tuple(draw.sample(range(5), draw.randint(1, 4)))
            tags, cause, issue = draw_tags(draw), draw.randint(0, 1), draw.randint(0, 1)
            told = (chain, precedents, cause, issue, tags)
            expected = controlling_by_definition(chain, precedents, cause, issue, tags)
            found = controlling_precedent(chain, precedents, cause, issue, tags)
            self.assertExact(found, expected, told)
            outcomes.append(found)
        self.assertExact(len(set(outcomes)), 9)


class Distinguished(ExactCase):

    def test_there_is_none(self):
        self.assertExact(distinguished((0,), (), 2, 1, ()), ())
        self.assertExact(distinguished((0,), (precedent(0, True, (3,)),), 2, 1, (3,)), ())
        self.assertExact(distinguished((0,), (precedent(0, True),), 2, 1, ()), ())

    def test_only_the_missing_tags(self):
        precedents = (precedent(0, True, (1, 3, 5, 7)), precedent(0, True, (1,)), precedent(0, True, (2, 3)))
        expected = ((0, (1, 7)), (1, (1,)), (2, (2,)))
        self.assertExact(distinguished((0,), precedents, 2, 1, (3, 5)), expected)

    def test_only_precedents_on_the_issue(self):
        precedents = (
            precedent(3, True, (1,)),
            precedent(1, True, (1,), cause=1),
            precedent(1, True, (1,), issue=0),
            precedent(1, True, (1,)),
        )
        self.assertExact(distinguished((2, 1, 0), precedents, 2, 1, ()), ((3, (1,)),))

    def test_they_need_not_be_the_ones_that_would_control(self):
        precedents = (precedent(2, True, (1,)), precedent(0, True), precedent(2, False, (2,)))
        self.assertExact(distinguished((2, 1, 0), precedents, 2, 1, ()), ((0, (1,)), (2, (2,))))

    def test_drawn_precedents(self):
        draw = random.Random(162)
        for _ in range(1000):
            precedents = draw_precedents(draw, draw.randint(0, 12))
            chain = tuple(draw.sample(range(5), draw.randint(1, 4)))
            tags, cause, issue = draw_tags(draw), draw.randint(0, 1), draw.randint(0, 1)
            expected = distinguished_by_definition(chain, precedents, cause, issue, tags)
            found = distinguished(chain, precedents, cause, issue, tags)
            self.assertExact(found, expected, (chain, precedents, cause, issue, tags))


class Recording(ExactCase):

    def test_the_first_one(self):
        new = (0, 0, 1, 2, 0, False, (3,))
        self.assertExact(record_precedent((), new), (new,))

    def test_it_is_added_behind_all_others(self):
        first, second, new = (0, 0, 1, 2, 0, False, ()), (1, 0, 1, 2, 0, True, ()), (0, 0, 2, 2, 9, True, ())
        self.assertExact(record_precedent((second, first), new), (second, first, new))

    def test_one_of_the_same_issue_is_removed_whatever_its_cause(self):
        others = ((1, 0, 1, 2, 0, True, ()), (0, 1, 1, 2, 0, True, ()), (0, 0, 0, 2, 0, True, ()))
        old = (0, 0, 1, 2, 3, True, (4,))
        for new in ((0, 0, 1, 2, 0, False, ()), (0, 0, 1, 7, 0, False, (4,)), old):
            for place in range(4):
                precedents = others[:place] + (old,) + others[place:]
                self.assertExact(record_precedent(precedents, new), others + (new,), (place, new))

    def test_one_that_differs_in_one_number_stays(self):
        new = (3, 4, 5, 2, 0, False, ())
        for number in ((2, 4, 5), (3, 5, 5), (3, 4, 4), (4, 3, 5), (3, 5, 4)):
            old = number + (2, 0, False, ())
            self.assertExact(record_precedent((old,), new), (old, new))

    def test_drawn_precedents(self):
        draw = random.Random(161)
        for _ in range(200):
            precedents, table = (), {}
            for one in draw_precedents(draw, 12):
                precedents = record_precedent(precedents, one)
                table.pop(one[:3], None)
                table[one[:3]] = one
                self.assertExact(precedents, tuple(table.values()))


if __name__ == "__main__":
    unittest.main()
