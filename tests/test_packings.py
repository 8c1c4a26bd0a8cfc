"""Points 120, 121, 122 and 123: packings and certificates."""

import random
import unittest

from drawing import draw_assignment, draw_cause, draw_costs, draw_one_way_costs
from exact import ExactCase
from overturn.causes import winner_by
from overturn.costs import least_cost
from overturn.errors import OverturnError, TwoWays
from overturn.packings import check_certificate, merged, packing_for, total_weight
from overturn.reader import read_cause
from trees import (
    INFINITE,
    PARTIES,
    assignment_number,
    cost_of,
    grounds_by_table,
    is_win,
    is_within_capacities,
    least_by_table,
    merged_by_places,
    number_of,
    packing_by_table,
    total_number,
)

OPPONENTS = {"claimant": "respondent", "respondent": "claimant"}


def packing_by_turns(grounds, costs):
    """Return the members that the grounds get by turns, each as much weight as is left."""
    left = {}
    for issue, (if_true, if_false) in enumerate(costs):
        left[issue, "1"], left[issue, "0"] = number_of(if_false), number_of(if_true)
    members = []
    for ground in grounds:
        ends = [(issue, letter) for issue, letter in enumerate(ground) if letter != "?"]
        weight = min(left[end] for end in ends)
        if weight > 0:
            members.append((ground, cost_of(weight)))
        if weight == INFINITE:
            break
        for end in ends:
            left[end] -= weight
    return tuple(members)


def is_certificate(cause, costs, party, packing, assignment):
    """Return whether there is a certificate, by its four conditions."""
    return (
        all(is_win(cause, member, party) for member, _ in packing)
        and is_within_capacities(costs, packing)
        and is_win(cause, assignment, OPPONENTS[party])
        and total_number(packing) == assignment_number(costs, assignment)
    )


class Totals(ExactCase):

    def test_totals(self):
        self.assertExact(total_weight(()), 0)
        self.assertExact(total_weight((("1?", 0),)), 0)
        self.assertExact(total_weight((("1?", 3), ("?1", 4), ("0?", 0))), 7)

    def test_infinite_totals(self):
        self.assertExact(total_weight((("1?", None),)), None)
        self.assertExact(total_weight((("1?", 3), ("?1", None), ("0?", 5))), None)
        self.assertExact(total_weight((("1?", None), ("?1", None))), None)

    def test_a_packing_longer_than_may_be_passed_by_others(self):
        self.assertExact(total_weight((("1", 1000),) * 18), 18000)


class Merging(ExactCase):

    def check(self, first, second, expected):
        """Merge packings whose members are told by a letter and a weight."""
        places = "abc"
        left = tuple((self.at(places.index(letter), "1"), weight) for letter, weight in first)
        right = tuple((self.at(3 + places.index(letter), "0"), weight) for letter, weight in second)
        told = []
        for pair, weight in expected:
            one, other = places.index(pair[0]), 3 + places.index(pair[1])
            told.append(("".join("1" if k == one else "0" if k == other else "?" for k in range(6)), weight))
        self.assertExact(merged(left, right), tuple(told), (first, second))
        turned = tuple(sorted(merged(right, left)))
        self.assertExact(turned, tuple(sorted(told)), (first, second))

    def at(self, place, letter):
        return "?" * place + letter + "?" * (5 - place)

    def test_empty_packings(self):
        self.check((), (), ())
        self.check((("a", 1),), (), ())
        self.check((("a", None), ("b", 2)), (), ())

    def test_members_that_are_cut(self):
        self.check((("a", 3), ("b", 2)), (("a", 4), ("b", 1)), (("aa", 3), ("ba", 1), ("bb", 1)))
        self.check((("a", 9),), (("a", 1), ("b", 2), ("c", 3)), (("aa", 1), ("ab", 2), ("ac", 3)))

    def test_members_whose_weights_end_at_the_same_place(self):
        self.check((("a", 2), ("b", 3)), (("a", 2), ("b", 3)), (("aa", 2), ("bb", 3)))
        self.check((("a", 2), ("b", 3)), (("a", 1), ("b", 1), ("c", 5)), (("aa", 1), ("ab", 1), ("bc", 3)))

    def test_what_is_left_of_the_longer_one_goes(self):
        self.check((("a", 2),), (("a", 5), ("b", 5)), (("aa", 2),))
        self.check((("a", 2),), (("a", 2), ("b", 5)), (("aa", 2),))

    def test_weights_of_zero_at_every_place(self):
        self.check((("a", 0), ("b", 2)), (("a", 2),), (("ba", 2),))
        self.check((("a", 1), ("b", 0), ("c", 1)), (("a", 2),), (("aa", 1), ("ca", 1)))
        self.check((("a", 2), ("b", 0)), (("a", 5),), (("aa", 2),))
        self.check((("a", 0), ("b", 0)), (("a", 5),), ())
        self.check((("a", 0), ("b", None)), (("a", 0), ("b", None)), (("bb", None),))

    def test_infinite_weights_at_every_place(self):
        self.check((("a", None),), (("a", 2), ("b", 3)), (("aa", 2), ("ab", 3)))
        self.check((("a", 1), ("b", None)), (("a", 2), ("b", 3)), (("aa", 1), ("ba", 1), ("bb", 3)))
        self.check((("a", None), ("b", 1)), (("a", 2), ("b", 3)), (("aa", 2), ("ab", 3)))
        self.check((("a", None),), (("a", None),), (("aa", None),))

    def test_two_infinite_weights_are_the_last_member(self):
        self.check((("a", None), ("b", 2)), (("a", None), ("b", 3)), (("aa", None),))
        self.check((("a", 1), ("b", None), ("c", 2)), (("a", None), ("b", 3)), (("aa", 1), ("ba", None)))
        self.check((("a", None), ("b", None)), (("a", 4), ("b", None)), (("aa", 4), ("ab", None)))

    def test_each_letter_and_issues_that_nobody_constrains(self):
        found = merged((("1?0??", 2),), (("?0??1", 2),))
        self.assertExact(found, (("100?1", 2),))
        self.assertExact(merged((("??", 1),), (("??", 2),)), (("??", 1),))

    def test_drawn_packings(self):
        draw = random.Random(121)
        for _ in range(1500):
            packings = []
            for side in range(2):
                members = []
                for _ in range(draw.randint(0, 12)):
                    part = draw_assignment(draw, 3)
                    assignment = part + "???" if side == 0 else "???" + part
                    members.append((assignment, draw.choice((0, 1, 2, 2, 3, None, draw.randint(0, 1000)))))
                packings.append(tuple(members))
            expected = merged_by_places(packings[0], packings[1])
            self.assertExact(merged(packings[0], packings[1]), expected, packings)


class PackingsForAParty(ExactCase):

    def check(self, text, costs, claimant, respondent):
        cause = read_cause(text)
        self.assertExact(packing_for(cause, costs, "claimant"), claimant, (text, costs))
        self.assertExact(packing_for(cause, costs, "respondent"), respondent, (text, costs))

    def test_a_single_issue(self):
        self.check("a", ((0, 7),), (("1", 7),), ())
        self.check("a", ((7, 0),), (), (("0", 7),))
        self.check("a", ((0, 0),), (), ())
        self.check("a", ((0, None),), (("1", None),), ())
        self.check("a", ((None, 0),), (), (("0", None),))

    def test_each_connective(self):
        costs = ((0, 2), (0, 3))
        self.check("(a and b)", costs, (("11", 2),), ())
        self.check("(a or b)", costs, (("1?", 2), ("?1", 3)), ())
        self.check("(a unless b)", costs, (), (("?1", 3),))
        costs = ((2, 0), (3, 0))
        self.check("(a and b)", costs, (), (("0?", 2), ("?0", 3)))
        self.check("(a or b)", costs, (), (("00", 2),))
        self.check("(a unless b)", costs, (), (("0?", 2),))
        costs = ((0, 2), (3, 0))
        self.check("(a unless b)", costs, (("10", 2),), ())

    def test_infinite_weights(self):
        costs = ((0, None), (0, 3), (0, None), (0, None))
        self.check("((a or b) and (c or d))", costs, (("1?1?", None),), ())
        costs = ((0, 2), (0, None), (0, 3), (0, None))
        expected = (("1?1?", 2), ("?11?", 1), ("?1?1", None))
        self.check("((a or b) and (c or d))", costs, expected, ())
        self.check("(a or b)", ((0, None), (0, 3)), (("1?", None), ("?1", 3)), ())

    def test_unless_nested_in_its_second_operand(self):
        self.check("(a unless (b unless c))", ((0, 5), (2, 0), (0, 4)), (("10?", 2), ("1?1", 3)), ())
        self.check("(a unless (b unless c))", ((0, 5), (0, 9), (4, 0)), (), (("?10", 4),))

    def test_two_ways(self):
        cause = read_cause("(a and (b or c))")
        cases = (
            (((1, 1), (0, 0), (1, 1)), 0),
            (((0, 1), (0, 0), (1, 1)), 2),
            (((0, 1), (None, 3), (1, 1)), 1),
            (((0, None), (0, None), (None, None)), 2),
            (((0, None), (3, None), (0, 0)), 1),
        )
        for costs, number in cases:
            for party in PARTIES:
                with self.assertRaises(TwoWays) as caught:
                    packing_for(cause, costs, party)
                self.assertExact(caught.exception.number, number, (costs, party))
                self.assertIsInstance(caught.exception, OverturnError)

    def test_two_ways_in_the_order_of_all_issues(self):
        # The party needs only the second operand, and its own finding on the first issue costs 0.
        cause = read_cause("((a unless b) or c)")
        costs = ((0, 4), (2, 3), (5, 6))
        for party in PARTIES:
            with self.assertRaises(TwoWays) as caught:
                packing_for(cause, costs, party)
            self.assertExact(caught.exception.number, 1)

    def test_the_tables(self):
        draw = random.Random(122)
        for _ in range(1500):
            many = draw.randint(1, 8)
            cause, costs = draw_cause(draw, many), draw_one_way_costs(draw, many)
            for party in PARTIES:
                expected = packing_by_table(cause, costs, party == "claimant")
                self.assertExact(packing_for(cause, costs, party), expected, (cause, costs, party))

    def test_members_are_grounds_with_as_much_weight_as_is_left(self):
        draw = random.Random(123)
        for _ in range(1500):
            many = draw.randint(1, 8)
            cause, costs = draw_cause(draw, many), draw_one_way_costs(draw, many)
            for party in PARTIES:
                told = (cause, costs, party)
                grounds = grounds_by_table(cause, party == "claimant")
                packing = packing_for(cause, costs, party)
                numbers = [grounds.index(assignment) for assignment, _ in packing]
                self.assertExact(numbers, sorted(set(numbers)), told)
                expected = packing_by_turns(grounds, costs)
                self.assertExact(packing[:len(expected)], expected, told)
                if None not in [weight for _, weight in packing]:
                    self.assertExact(packing, expected, told)

    def test_totals_and_capacities(self):
        draw = random.Random(124)
        for _ in range(1500):
            many = draw.randint(1, 8)
            cause, costs = draw_cause(draw, many), draw_one_way_costs(draw, many)
            for party in PARTIES:
                packing = packing_for(cause, costs, party)
                self.assertTrue(is_within_capacities(costs, packing), (cause, costs, party))
                least = least_cost(cause, costs, OPPONENTS[party])[0]
                self.assertExact(total_weight(packing), least, (cause, costs, party))

    def test_a_certificate_for_the_party(self):
        draw = random.Random(125)
        for _ in range(600):
            many = draw.randint(1, 8)
            cause, costs = draw_cause(draw, many), draw_one_way_costs(draw, many)
            for party in PARTIES:
                packing = packing_for(cause, costs, party)
                _, assignment = least_by_table(cause, costs, party == "respondent")
                found = check_certificate(cause, costs, party, packing, assignment)
                self.assertExact(found, True, (cause, costs, party))


class Certificates(ExactCase):

    def check(self, text, costs, party, packing, assignment, expected):
        found = check_certificate(read_cause(text), costs, party, packing, assignment)
        self.assertExact(found, expected, (text, costs, party, packing, assignment))

    def test_both_costs_greater_than_zero(self):
        costs = ((4, 2), (5, 3))
        self.check("(a or b)", costs, "claimant", (("1?", 2), ("?1", 3)), "00", True)
        self.check("(a or b)", costs, "respondent", (("00", 4),), "1?", True)
        self.check("(a and b)", costs, "respondent", (("0?", 4), ("?0", 5)), "11", True)
        self.check("(a unless b)", costs, "respondent", (("0?", 4), ("?1", 3)), "10", True)

    def test_a_member_does_not_make_the_party_win(self):
        costs = ((0, 4), (0, 4))
        self.check("(a and b)", costs, "claimant", (("11", 4),), "0?", True)
        self.check("(a and b)", costs, "claimant", (("1?", 4),), "0?", False)
        self.check("(a and b)", costs, "claimant", (("??", 4),), "0?", False)
        self.check("(a or b)", costs, "claimant", (("1?", 4), ("?1", 3), ("??", 1)), "00", False)

    def test_members_of_the_weight_zero_make_the_party_win_too(self):
        costs = ((0, 4), (0, 4))
        self.check("(a and b)", costs, "claimant", (("11", 4), ("11", 0)), "0?", True)
        self.check("(a and b)", costs, "claimant", (("11", 4), ("1?", 0)), "0?", False)
        self.check("(a and b)", costs, "claimant", (("0?", 0), ("11", 4)), "0?", False)

    def test_a_capacity_is_exceeded(self):
        self.check("(a or b)", ((0, 2), (0, 3)), "claimant", (("1?", 2), ("?1", 3)), "00", True)
        self.check("(a or b)", ((0, 2), (0, 3)), "claimant", (("1?", 3), ("?1", 2)), "00", False)
        self.check("(a or b)", ((0, 2), (0, 3)), "claimant", (("1?", 1), ("1?", 1), ("?1", 3)), "00", True)
        self.check("(a or b)", ((0, 2), (0, 3)), "claimant", (("11", 2), ("1?", 1), ("?1", 2)), "00", False)
        self.check("(a or b)", ((2, 0), (3, 0)), "respondent", (("00", 2),), "1?", True)
        self.check("(a or b)", ((2, 0), (3, 0)), "respondent", (("00", 3),), "?1", False)

    def test_each_finding_has_its_own_capacity(self):
        packing = (("1?1", 2), ("011", 5))
        self.check("((a or b) and c)", ((5, 2), (0, 7), (0, 7)), "claimant", packing, "??0", True)
        self.check("((a or b) and c)", ((4, 2), (0, 7), (0, 7)), "claimant", packing, "??0", False)
        self.check("((a or b) and c)", ((5, 1), (0, 7), (0, 7)), "claimant", packing, "??0", False)

    def test_the_assignment_does_not_make_the_opponent_win(self):
        costs = ((0, 2), (0, 2))
        self.check("(a and b)", costs, "claimant", (("11", 2),), "?0", True)
        self.check("(a and b)", costs, "claimant", (("11", 0),), "??", False)
        self.check("(a or b)", costs, "claimant", (("1?", 2),), "0?", False)
        self.check("(a or b)", costs, "claimant", (("1?", 0),), "1?", False)
        self.check("(a or b)", costs, "claimant", (), "1?", False)

    def test_the_total_is_not_the_cost_of_the_assignment(self):
        costs = ((0, 2), (0, 3))
        self.check("(a or b)", costs, "claimant", (("1?", 2), ("?1", 2)), "00", False)
        self.check("(a and b)", costs, "claimant", (("11", 2),), "?0", False)
        self.check("(a and b)", costs, "claimant", (("11", 2),), "0?", True)
        self.check("(a and b)", ((0, None), (0, 3)), "claimant", (("11", 3),), "0?", False)
        self.check("(a or b)", ((0, None), (0, 3)), "claimant", (("1?", 9),), "00", False)

    def test_an_empty_packing(self):
        self.check("(a and b)", ((3, 0), (0, 5)), "claimant", (), "0?", True)
        self.check("(a and b)", ((3, 0), (0, 5)), "claimant", (), "?0", False)
        self.check("(a and b)", ((0, 0), (0, 5)), "respondent", (), "11", True)

    def test_total_and_cost_may_both_be_infinite(self):
        self.check("a", ((0, None),), "claimant", (("1", None),), "0", True)
        self.check("(a or b)", ((0, None), (0, 3)), "claimant", (("1?", None), ("?1", 3)), "00", True)
        self.check("(a or b)", ((0, None), (0, 3)), "claimant", (("11", None),), "00", False)
        self.check("(a or b)", ((0, 4), (0, 3)), "claimant", (("1?", None),), "00", False)
        self.check("a", ((None, None),), "claimant", (("1", None), ("1", None)), "0", True)

    def test_weights_of_one_thousand(self):
        self.check("a", ((0, 2000),), "claimant", (("1", 1000), ("1", 1000)), "0", True)

    def test_drawn_certificates(self):
        draw = random.Random(126)
        outcomes = []
        for _ in range(3000):
            many = draw.randint(1, 5)
            cause = draw_cause(draw, many)
            costs = draw.choice((draw_costs, draw_one_way_costs))(draw, many)
            party = draw.choice(PARTIES)
            packing, assignment = self.drawn(draw, cause, costs, party)
            expected = is_certificate(cause, costs, party, packing, assignment)
            found = check_certificate(cause, costs, party, packing, assignment)
            self.assertExact(found, expected, (cause, costs, party, packing, assignment))
            outcomes.append(found)
        self.assertGreater(outcomes.count(True), 300)
        self.assertGreater(outcomes.count(False), 300)

    def drawn(self, draw, cause, costs, party):
        """Draw a packing and an assignment that are nearly a certificate."""
        _, assignment = least_by_table(cause, costs, party == "respondent")
        grounds = grounds_by_table(cause, party == "claimant")
        packing = list(packing_by_turns(grounds, costs))
        change = draw.choice(("nothing", "nothing", "weight", "letter", "add", "drop", "assignment"))
        if change == "add":
            packing.append((draw_assignment(draw, len(costs)), draw.choice((0, 0, 1, None))))
        elif change == "assignment":
            assignment = draw_assignment(draw, len(costs))
        elif packing and change != "nothing":
            at = draw.randrange(len(packing))
            member, weight = packing.pop(at)
            if change == "weight":
                packing.insert(at, (member, draw.choice((0, 1, None, (weight or 0) + 1))))
            elif change == "letter":
                place = draw.randrange(len(member))
                changed = member[:place] + draw.choice("01?") + member[place + 1:]
                packing.insert(at, (changed, weight))
        return tuple(packing[:12]), assignment

    def test_the_total_is_the_least_cost_for_the_opponent_whoever_made_it(self):
        draw = random.Random(127)
        certified = 0
        for _ in range(1500):
            many = draw.randint(1, 5)
            cause, costs, party = draw_cause(draw, many), draw_costs(draw, many), draw.choice(PARTIES)
            packing, assignment = self.drawn(draw, cause, costs, party)
            if check_certificate(cause, costs, party, packing, assignment):
                certified += 1
                self.assertExact(winner_by(cause, assignment), OPPONENTS[party])
                least = least_cost(cause, costs, OPPONENTS[party])[0]
                self.assertExact(total_weight(packing), least, (cause, costs, party))
        self.assertGreater(certified, 100)


if __name__ == "__main__":
    unittest.main()
