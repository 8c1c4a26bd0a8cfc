"""Points 150 and 151: votes, findings by votes, votes needed and agreeing votes."""

import unittest
from itertools import combinations_with_replacement, product

from exact import ExactCase
from overturn.voting import agreeing_votes, count_votes, least_agreeing, votes_needed

MAJORITIES = (0, 1, 2)


def all_votes(many):
    """Return all strings of so many votes."""
    return ["".join(row) for row in product("10", repeat=many)]


def finding_by_definition(majority, votes):
    """Return the finding by votes."""
    ones = len([vote for vote in votes if vote == "1"])
    if majority == 0:
        return ones + ones > len(votes)
    if majority == 1:
        return ones + ones + ones >= len(votes) + len(votes)
    return "0" not in votes


def agreeing(rulings):
    """Return how many judges have voted for each of the issues."""
    return len([judge for judge in zip(*rulings) if set(judge) == {"1"}])


class Findings(ExactCase):

    def test_without_any_votes(self):
        self.assertExact([count_votes(majority, "", None) for majority in MAJORITIES],
                         [(False, 0), (True, 0), (True, 0)])
        self.assertExact([count_votes(0, "", previous) for previous in (True, False)],
                         [(False, 0), (False, 0)])
        self.assertExact([count_votes(2, "", previous) for previous in (True, False)],
                         [(True, 0), (True, 0)])

    def test_a_tie_is_no_simple_majority(self):
        self.assertExact(count_votes(0, "10", None), (False, 0))
        self.assertExact(count_votes(0, "0011", True), (False, 2))
        self.assertExact(count_votes(0, "00111", True), (True, 2))

    def test_exactly_two_thirds(self):
        found = [count_votes(1, votes, None)[0] for votes in ("110", "100", "111100", "111000", "1110", "1100")]
        self.assertExact(found, [True, False, True, False, True, False])

    def test_one_vote_against_unanimity(self):
        self.assertExact(count_votes(2, "111111111", False), (True, 9))
        self.assertExact(count_votes(2, "111101111", False), (False, 8))
        self.assertExact(count_votes(2, "0", False), (False, 0))

    def test_votes_against_the_previous_finding_whatever_the_new_one(self):
        self.assertExact(count_votes(0, "11000", True), (False, 3))
        self.assertExact(count_votes(0, "11000", False), (False, 2))
        self.assertExact(count_votes(0, "11100", True), (True, 2))
        self.assertExact(count_votes(0, "11100", False), (True, 3))
        self.assertExact(count_votes(0, "11100", None), (True, 0))

    def test_every_string_of_votes(self):
        for majority, many in product(MAJORITIES, range(10)):
            for votes in all_votes(many):
                finding = finding_by_definition(majority, votes)
                told = (majority, votes)
                self.assertExact(count_votes(majority, votes, None), (finding, 0), told)
                self.assertExact(count_votes(majority, votes, True), (finding, votes.count("0")), told)
                self.assertExact(count_votes(majority, votes, False), (finding, votes.count("1")), told)


class VotesNeeded(ExactCase):

    def test_each_majority(self):
        self.assertExact([votes_needed(bench, 0) for bench in (1, 2, 3, 4, 9)],
                         [(1, 1), (2, 1), (2, 2), (3, 2), (5, 5)])
        self.assertExact([votes_needed(bench, 1) for bench in (1, 2, 3, 4, 9)],
                         [(1, 1), (2, 1), (2, 2), (3, 2), (6, 4)])
        self.assertExact([votes_needed(bench, 2) for bench in (1, 2, 3, 4, 9)],
                         [(1, 1), (2, 1), (3, 1), (4, 1), (9, 1)])

    def test_every_bench_and_every_string_of_its_votes(self):
        for majority, bench in product(MAJORITIES, range(1, 10)):
            for_true, for_false = [], []
            for votes in all_votes(bench):
                if finding_by_definition(majority, votes):
                    for_true.append(votes.count("1"))
                else:
                    for_false.append(votes.count("0"))
            expected = (min(for_true), min(for_false))
            self.assertExact(votes_needed(bench, majority), expected, (bench, majority))


class AgreeingVotes(ExactCase):

    def test_a_negative_number_is_told_as_zero(self):
        self.assertExact(least_agreeing(3, 0, 3), 0)
        self.assertExact(least_agreeing(3, 0, 4), 0)
        self.assertExact(least_agreeing(3, 0, 9), 0)
        self.assertExact(least_agreeing(3, 0, 2), 1)

    def test_one_issue(self):
        for bench, majority in product(range(1, 10), MAJORITIES):
            self.assertExact(least_agreeing(bench, majority, 1), votes_needed(bench, majority)[0])

    def test_unanimous_judges_agree_on_everything(self):
        for bench, many in product(range(1, 10), range(1, 10)):
            self.assertExact(least_agreeing(bench, 2, many), bench)
            self.assertExact(agreeing_votes(bench, 2, many), ("1" * bench,) * many)

    def test_places_behind_the_last_judge_begin_again(self):
        self.assertExact(agreeing_votes(5, 0, 3), ("00111", "11001", "01110"))
        self.assertExact(agreeing_votes(4, 1, 5), ("0111", "1011", "1101", "1110", "0111"))
        self.assertExact(agreeing_votes(9, 1, 2), ("000111111", "111000111"))

    def test_they_are_as_told_and_the_least_number_agrees(self):
        for bench, majority, many in product(range(1, 10), MAJORITIES, range(1, 10)):
            told = (bench, majority, many)
            zeros = bench - votes_needed(bench, majority)[0]
            expected = []
            for number in range(many):
                votes = ["1"] * bench
                for place in range(zeros):
                    votes[(number * zeros + place) - bench * ((number * zeros + place) // bench)] = "0"
                expected.append("".join(votes))
            found = agreeing_votes(bench, majority, many)
            self.assertExact(found, tuple(expected), told)
            self.assertTrue(all(finding_by_definition(majority, votes) for votes in found), told)
            self.assertExact(agreeing(found), least_agreeing(bench, majority, many), told)

    def test_no_rulings_have_fewer_that_agree(self):
        for bench, majority, many in product(range(1, 6), MAJORITIES, range(1, 4)):
            for_true = [votes for votes in all_votes(bench) if finding_by_definition(majority, votes)]
            # The order of the rulings does not matter.
            rows = combinations_with_replacement(for_true, many)
            least = min(agreeing(rulings) for rulings in rows)
            self.assertExact(least_agreeing(bench, majority, many), least, (bench, majority, many))


if __name__ == "__main__":
    unittest.main()
