"""Points 170, 171, 172 and 173: review, rulings, review paths and cheapest rulings."""

import random
import unittest
from itertools import product

from drawing import draw_courts, draw_matter
from exact import ExactCase
from overturn.review import cheapest_rulings, is_allowed, needed_at, review_path, reviews
from overturn.voting import count_votes
from trees import INFINITE, cost_of, number_of

MAJORITIES = (0, 1, 2)


def court_with(bench, full_bench, facts=True, least=0):
    """Return a court of which only the parts that matter for a review are told."""
    return (None, bench, full_bench, facts, least, 5, False, 0)


def all_votes(most):
    """Return all strings of at most so many votes that differ in their numbers of `1` and `0`."""
    return ["1" * ones + "0" * (many - ones) for many in range(most + 1) for ones in range(many + 1)]


def allowed_by_definition(court, matter, level, votes):
    """Return whether a ruling is allowed by the table of the document."""
    finding = count_votes(matter[1], votes, None)[0]
    if matter[3] is not None and matter[3][1] != finding:
        if level < matter[3][0]:
            return False
        if level == matter[3][0]:
            return len(votes) == court[2]
    return len(votes) == court[1]


def needed_by_definition(court, matter, level):
    """Return the votes needed at a level by all rulings that are allowed."""
    needed = []
    for wanted, letter in ((True, "1"), (False, "0")):
        counts = [
            votes.count(letter) for votes in all_votes(9)
            if count_votes(matter[1], votes, None)[0] is wanted
            and allowed_by_definition(court, matter, level, votes)
        ]
        needed.append(min(counts) if counts else None)
    return tuple(needed)


def levels_by_definition(courts, chain, matter, level, top):
    """Return the levels of a review path."""
    levels = []
    for one in range(level, min(top + 1, len(chain))):
        _, _, _, facts, least, _, _, _ = courts[chain[one]]
        if matter[2] < least or not (matter[0] or facts):
            break
        levels.append(one)
    return tuple(levels)


def least_against(courts, chain, matter, levels, present, wanted):
    """Return the least sum of votes against the present findings, over all sequences of rulings."""
    least = 0 if present is wanted else INFINITE
    if not levels:
        return least
    court = courts[chain[levels[0]]]
    for votes in all_votes(9):
        if allowed_by_definition(court, matter, levels[0], votes):
            finding, against = count_votes(matter[1], votes, present)
            rest = least_against(courts, chain, matter, levels[1:], finding, wanted)
            least = min(least, against + rest)
    return least


def fits(matter, finding, level):
    """Return whether a matter fits the present finding from the level on."""
    return matter[3] is None or matter[3][1] is finding or matter[3][0] < level


def cases(seed, many):
    """Draw courts, chains, matters and levels."""
    draw = random.Random(seed)
    for _ in range(many):
        courts = draw_courts(draw, draw.randint(1, 4))
        chain = tuple(draw.sample(range(len(courts)), draw.randint(1, len(courts))))
        level = draw.choice((0, 0, 1, draw.randint(0, 9)))
        top = draw.choice((9, len(chain) - 1, draw.randint(0, 9), level))
        yield courts, chain, draw_matter(draw), level, top


class Reviewing(ExactCase):

    def test_the_least_amount(self):
        found = [reviews(court_with(1, 1, True, 500), False, amount) for amount in (0, 499, 500, 501, 10000)]
        self.assertExact(found, [False, False, True, True, True])
        found = [reviews(court_with(1, 1, False, 500), True, amount) for amount in (0, 499, 500, 501, 10000)]
        self.assertExact(found, [False, False, True, True, True])
        self.assertExact(reviews(court_with(1, 1, True, 0), False, 0), True)

    def test_facts_and_law(self):
        for facts, of_law in product((True, False), repeat=2):
            found = reviews(court_with(1, 1, facts, 0), of_law, 10)
            self.assertExact(found, facts or of_law, (facts, of_law))
            found = reviews(court_with(1, 1, facts, 11), of_law, 10)
            self.assertExact(found, False, (facts, of_law))


class Rulings(ExactCase):

    COURT = court_with(3, 5)

    def check(self, matter, level, needed, benches):
        """Check the votes needed, and the benches that are allowed for True and for False."""
        self.assertExact(needed_at(self.COURT, matter, level), needed, (matter, level))
        for many in range(10):
            found = is_allowed(self.COURT, matter, level, "1" * many)
            # Without votes the finding is False for the majority 0.
            bench = benches[1] if many == 0 and matter[1] == 0 else benches[0]
            self.assertExact(found, many == bench, (matter, level, many))
            if many > 0:
                found = is_allowed(self.COURT, matter, level, "0" * many)
                self.assertExact(found, many == benches[1], (matter, level, many))

    def test_no_precedent(self):
        for level in range(4):
            self.check((True, 0, 500, None), level, (2, 2), (3, 3))
            self.check((True, 1, 500, None), level, (2, 2), (3, 3))
            self.check((True, 2, 500, None), level, (3, 1), (3, 3))

    def test_below_the_level_of_the_precedent(self):
        self.check((True, 0, 500, (2, True)), 1, (2, None), (3, None))
        self.check((True, 0, 500, (2, True)), 0, (2, None), (3, None))
        self.check((True, 2, 500, (9, False)), 3, (None, 1), (None, 3))

    def test_at_the_level_of_the_precedent(self):
        self.check((True, 0, 500, (2, True)), 2, (2, 3), (3, 5))
        self.check((True, 0, 500, (2, False)), 2, (3, 2), (5, 3))
        self.check((True, 1, 500, (2, False)), 2, (4, 2), (5, 3))
        self.check((True, 2, 500, (0, True)), 0, (3, 1), (3, 5))

    def test_above_the_level_of_the_precedent(self):
        self.check((True, 0, 500, (2, True)), 3, (2, 2), (3, 3))
        self.check((True, 0, 500, (0, False)), 1, (2, 2), (3, 3))

    def test_two_benches_of_one_size(self):
        court = court_with(3, 3)
        self.assertExact(needed_at(court, (True, 0, 500, (2, True)), 2), (2, 2))
        self.assertExact(is_allowed(court, (True, 0, 500, (2, True)), 2, "000"), True)
        self.assertExact(is_allowed(court, (True, 0, 500, (2, True)), 1, "000"), False)

    def test_the_finding_and_not_each_vote_counts(self):
        matter = (True, 0, 500, (2, True))
        self.assertExact(is_allowed(self.COURT, matter, 1, "110"), True)
        self.assertExact(is_allowed(self.COURT, matter, 1, "100"), False)
        self.assertExact(is_allowed(self.COURT, matter, 2, "11100"), False)
        self.assertExact(is_allowed(self.COURT, matter, 2, "11000"), True)

    def test_no_votes(self):
        for majority in MAJORITIES:
            self.assertExact(is_allowed(self.COURT, (True, majority, 500, None), 0, ""), False)

    def test_whether_the_issue_is_reviewed_does_not_matter(self):
        court = court_with(3, 5, False, 9000)
        self.assertExact(needed_at(court, (False, 0, 1, None), 0), (2, 2))
        self.assertExact(is_allowed(court, (False, 0, 1, None), 0, "000"), True)

    def test_every_bench_and_every_level(self):
        draw = random.Random(171)
        for _ in range(300):
            court, matter = draw_courts(draw, 1)[0], draw_matter(draw)
            for level in range(6):
                told = (court, matter, level)
                expected = needed_by_definition(court, matter, level)
                self.assertExact(needed_at(court, matter, level), expected, told)
                for votes in all_votes(9):
                    expected = allowed_by_definition(court, matter, level, votes)
                    self.assertExact(is_allowed(court, matter, level, votes), expected, told + (votes,))


class ReviewPaths(ExactCase):

    COURTS = (court_with(5, 9), court_with(3, 5), court_with(1, 1))
    FACT = (False, 0, 500, None)

    def check(self, courts, matter, level, top, expected):
        found = review_path(courts, (2, 1, 0), matter, level, top)
        self.assertExact(found, expected, (courts, matter, level, top))

    def test_the_end_of_the_chain(self):
        self.check(self.COURTS, self.FACT, 0, 9, ((0, 1, 2), 1, 1))
        self.check(self.COURTS, self.FACT, 1, 9, ((1, 2), 2, 2))
        self.check(self.COURTS, self.FACT, 2, 2, ((2,), 3, 3))

    def test_the_top(self):
        self.check(self.COURTS, self.FACT, 0, 0, ((0,), 1, 1))
        self.check(self.COURTS, self.FACT, 1, 1, ((1,), 2, 2))
        self.check(self.COURTS, self.FACT, 0, 1, ((0, 1), 1, 1))

    def test_an_empty_path(self):
        empty = ((), None, None)
        self.check(self.COURTS, self.FACT, 3, 9, empty)
        self.check(self.COURTS, self.FACT, 9, 9, empty)
        self.check(self.COURTS, self.FACT, 2, 1, empty)
        self.check(self.COURTS, self.FACT, 1, 0, empty)
        courts = self.COURTS[:1] + (court_with(3, 5, False),) + self.COURTS[2:]
        self.check(courts, self.FACT, 1, 9, empty)

    def test_it_ends_before_a_court_that_does_not_review(self):
        courts = self.COURTS[:1] + (court_with(3, 5, False),) + self.COURTS[2:]
        self.check(courts, self.FACT, 0, 9, ((0,), 1, 1))
        self.check(courts, (True, 0, 500, None), 0, 9, ((0, 1, 2), 1, 1))
        self.check(courts, self.FACT, 2, 9, ((2,), 3, 3))

    def test_the_least_amount(self):
        courts = (court_with(5, 9, True, 501), court_with(3, 5, True, 500), court_with(1, 1))
        self.check(courts, self.FACT, 1, 9, ((1,), 2, 2))
        self.check(courts, (False, 0, 501, None), 1, 9, ((1, 2), 2, 2))
        self.check(courts, (False, 0, 499, None), 1, 9, ((), None, None))

    def test_the_least_votes_may_be_needed_at_any_level(self):
        courts = (court_with(1, 1), court_with(3, 5), court_with(5, 5))
        self.check(courts, (False, 2, 500, None), 0, 9, ((0, 1, 2), 1, 1))
        self.check(courts, (False, 2, 500, None), 0, 1, ((0, 1), 3, 1))
        courts = (court_with(5, 5), court_with(1, 1), court_with(3, 5))
        self.check(courts, self.FACT, 0, 9, ((0, 1, 2), 1, 1))

    def test_courts_that_are_bound(self):
        matter = (True, 0, 500, (2, False))
        self.check(self.COURTS, matter, 0, 9, ((0, 1, 2), 5, 1))
        self.check(self.COURTS, matter, 0, 1, ((0, 1), None, 1))
        self.check(self.COURTS, (True, 0, 500, (9, True)), 0, 9, ((0, 1, 2), 1, None))
        self.check(self.COURTS, (True, 0, 500, (0, True)), 0, 9, ((0, 1, 2), 1, 1))

    def test_a_chain_that_is_none_of_the_courts(self):
        found = review_path(self.COURTS, (0, 2), self.FACT, 0, 9)
        self.assertExact(found, ((0, 1), 1, 1))

    def test_drawn_paths(self):
        for courts, chain, matter, level, top in cases(172, 1500):
            levels = levels_by_definition(courts, chain, matter, level, top)
            needed = [needed_by_definition(courts[chain[one]], matter, one) for one in levels]
            expected = [
                cost_of(min([number_of(pair[side]) for pair in needed], default=INFINITE))
                for side in (0, 1)
            ]
            found = review_path(courts, chain, matter, level, top)
            self.assertExact(found, (levels, *expected), (courts, chain, matter, level, top))

    def test_the_votes_are_the_least_sum_over_all_sequences_of_rulings(self):
        for courts, chain, matter, level, top in cases(173, 200):
            levels, for_true, for_false = review_path(courts, chain, matter, level, top)
            if len(levels) > 3:
                continue
            for present, cost in ((False, for_true), (True, for_false)):
                if fits(matter, present, level):
                    least = least_against(courts, chain, matter, levels, present, not present)
                    told = (courts, chain, matter, level, top, present)
                    self.assertExact(cost, cost_of(least), told)


class CheapestRulings(ExactCase):

    COURTS = (court_with(5, 9), court_with(3, 5), court_with(1, 1))

    def check(self, courts, matter, finding, level, top, expected):
        found = cheapest_rulings(courts, (2, 1, 0), matter, finding, level, top)
        self.assertExact(found, expected, (courts, matter, finding, level, top))

    def test_at_the_first_level(self):
        matter = (False, 0, 500, None)
        self.check(self.COURTS, matter, True, 0, 9, ("0",))
        self.check(self.COURTS, matter, False, 0, 9, ("1",))
        self.check(self.COURTS, matter, True, 1, 9, ("001",))
        self.check(self.COURTS, matter, False, 1, 9, ("110",))
        self.check(self.COURTS, (False, 2, 500, None), True, 1, 9, ("011",))
        self.check(self.COURTS, (False, 2, 500, None), False, 1, 9, ("111",))

    def test_the_courts_before_confirm_the_present_finding(self):
        courts = (court_with(2, 2), court_with(3, 5), court_with(5, 5))
        matter = (False, 0, 500, None)
        self.check(courts, matter, True, 0, 9, ("11111", "111", "01"))
        self.check(courts, matter, False, 0, 9, ("00000", "110"))
        self.check(courts, matter, True, 0, 0, ("00011",))

    def test_the_first_one_of_the_cheapest_levels(self):
        courts = (court_with(3, 3), court_with(3, 3), court_with(3, 3))
        self.check(courts, (False, 0, 500, None), True, 0, 9, ("001",))
        courts = (court_with(3, 3), court_with(3, 3), court_with(5, 5))
        self.check(courts, (False, 0, 500, None), True, 0, 9, ("11111", "001"))

    def test_the_full_bench_departs_from_a_precedent(self):
        matter = (True, 0, 500, (2, False))
        self.check(self.COURTS, matter, False, 0, 9, ("0", "000", "111110000"))
        self.check(self.COURTS, matter, False, 0, 1, None)
        self.check(self.COURTS, (True, 0, 500, (1, True)), True, 0, 9, ("1", "00011"))

    def test_an_ordinary_bench_returns_to_the_precedent(self):
        courts = (court_with(5, 9), court_with(3, 9), court_with(1, 1))
        self.check(courts, (True, 0, 500, (1, True)), True, 1, 9, ("111", "00011"))
        self.check(courts, (True, 0, 500, (0, True)), False, 1, 9, ("110",))

    def test_there_are_none(self):
        self.check(self.COURTS, (False, 0, 500, None), True, 3, 9, None)
        self.check(self.COURTS, (False, 0, 500, None), True, 2, 1, None)
        self.check(self.COURTS, (True, 0, 500, (9, True)), True, 0, 9, None)

    def test_drawn_matters(self):
        outcomes = []
        for courts, chain, matter, level, top in cases(174, 1500):
            for finding in (True, False):
                if not fits(matter, finding, level):
                    continue
                told = (courts, chain, matter, finding, level, top)
                levels, for_true, for_false = review_path(courts, chain, matter, level, top)
                cost = for_false if finding else for_true
                found = cheapest_rulings(courts, chain, matter, finding, level, top)
                outcomes.append(found is None)
                if cost is None:
                    self.assertExact(found, None, told)
                    continue
                self.check_rulings(told, found, levels, cost)
        self.assertGreater(outcomes.count(True), 100)
        self.assertGreater(outcomes.count(False), 100)

    def check_rulings(self, told, rulings, levels, cost):
        """Check that the rulings are allowed and cost as much as told, all of it by the last one."""
        courts, chain, matter, finding, _, _ = told
        letters = "10" if finding else "01"
        for number, votes in enumerate(rulings):
            level, court = levels[number], courts[chain[levels[number]]]
            self.assertTrue(allowed_by_definition(court, matter, level, votes), told)
            behind, against = count_votes(matter[1], votes, finding)
            needed = needed_by_definition(court, matter, level)[1 if finding else 0]
            if number < len(rulings) - 1:
                self.assertExact(votes, letters[0] * court[1], told)
                self.assertExact(behind, finding, told)
                self.assertNotEqual(needed, cost, told)
            else:
                rest = len(votes) - cost
                self.assertExact(votes, letters[1] * cost + letters[0] * rest, told)
                self.assertExact((behind, against), (not finding, cost), told)
                self.assertExact(needed, cost, told)


if __name__ == "__main__":
    unittest.main()
