"""Points 190, 191 and 194: apportioning, legal costs and estates."""

import random
import unittest
from fractions import Fraction

from exact import ExactCase
from overturn.shares import apportion, distribute, legal_costs

PARTIES = ("claimant", "respondent")


def shares_by_definition(total, weights):
    """Return the shares by their quotas, unit by unit."""
    whole = sum(weights)
    if whole == 0:
        return (0,) * len(weights)
    quotas = [Fraction(total * weight, whole) for weight in weights]
    shares = [int(quota) for quota in quotas]
    waiting = list(range(len(weights)))
    while sum(shares) < total:
        greatest = max(quotas[index] - int(quotas[index]) for index in waiting)
        first = [index for index in waiting if quotas[index] - int(quotas[index]) == greatest][0]
        waiting.remove(first)
        shares[first] += 1
    return tuple(shares)


def distributed_by_definition(estate, claims):
    """Return what each claim receives, rank by rank."""
    received = {}
    covered = True
    for rank in sorted(set(rank for rank, _ in claims)):
        row = [(number, amount) for number, (own, amount) in enumerate(claims) if own == rank]
        whole = sum(amount for _, amount in row)
        if not covered:
            received.update((number, 0) for number, _ in row)
        elif whole <= estate:
            received.update(row)
            estate -= whole
        else:
            covered = False
            shares = shares_by_definition(estate, tuple(amount for _, amount in row))
            received.update(zip([number for number, _ in row], shares))
    return tuple(received[number] for number in range(len(claims)))


def costs_by_definition(claims, claimant_paid, respondent_paid):
    """Return the legal costs by the definition."""
    lost = {"claimant": 0, "respondent": 0}
    for amount, winner in claims:
        if winner is not None:
            lost["respondent" if winner == "claimant" else "claimant"] += amount
    if lost["claimant"] == 0 and lost["respondent"] == 0:
        return claimant_paid, respondent_paid, 0
    total = claimant_paid + respondent_paid
    claimant, respondent = shares_by_definition(total, (lost["claimant"], lost["respondent"]))
    return claimant, respondent, claimant - claimant_paid


class Apportioning(ExactCase):

    def test_no_weights(self):
        self.assertExact(apportion(0, ()), ())
        self.assertExact(apportion(10, ()), ())

    def test_only_weights_of_zero(self):
        self.assertExact(apportion(10, (0,)), (0,))
        self.assertExact(apportion(10, (0, 0, 0)), (0, 0, 0))

    def test_a_total_of_zero(self):
        self.assertExact(apportion(0, (3, 0, 7)), (0, 0, 0))

    def test_one_weight(self):
        self.assertExact(apportion(10, (3,)), (10,))
        self.assertExact(apportion(1000000, (1,)), (1000000,))

    def test_zeros_among_the_weights(self):
        self.assertExact(apportion(10, (0, 1, 0, 1, 1, 0)), (0, 4, 0, 3, 3, 0))
        self.assertExact(apportion(1, (0, 0, 5)), (0, 0, 1))

    def test_equal_remainders_go_to_the_smaller_index(self):
        self.assertExact(apportion(1, (1, 1, 1)), (1, 0, 0))
        self.assertExact(apportion(2, (1, 1, 1)), (1, 1, 0))
        self.assertExact(apportion(5, (1, 1, 1)), (2, 2, 1))
        self.assertExact(apportion(7, (2, 2, 2, 2)), (2, 2, 2, 1))

    def test_the_greatest_remainders_come_first(self):
        self.assertExact(apportion(10, (6, 6, 2)), (4, 4, 2))
        self.assertExact(apportion(10, (2, 6, 6)), (2, 4, 4))
        # The remainders are 2, 4 and 4 of 5, so the first one has to wait.
        self.assertExact(apportion(2, (1, 2, 2)), (0, 1, 1))
        self.assertExact(apportion(3, (1, 2, 2)), (1, 1, 1))

    def test_no_weight_receives_two_of_the_units_left(self):
        # Quotas of 1.75 each: three units are left, and the first weight receives only one of them.
        self.assertExact(apportion(7, (5, 5, 5, 5)), (2, 2, 2, 1))
        self.assertExact(apportion(3, (99999, 1, 1, 1)), (3, 0, 0, 0))
        self.assertExact(apportion(8, (9, 1, 1, 1, 1, 1, 1, 1)), (5, 1, 1, 1, 0, 0, 0, 0))

    def test_numbers_are_exact(self):
        weights = (100000, 99999, 99998, 99997, 1, 2, 3, 100000)
        expected = shares_by_definition(1000000, weights)
        self.assertExact(apportion(1000000, weights), expected)
        # Floating point numbers take both quotients for equal here.
        big = 10 ** 20
        self.assertExact(apportion(1, (big, big + 1)), (0, 1))

    def test_exact_quotas(self):
        self.assertExact(apportion(100, (1, 2, 3, 4)), (10, 20, 30, 40))

    def test_more_than_eight_weights(self):
        self.assertExact(apportion(12, (1,) * 10), (2, 2) + (1,) * 8)

    def test_drawn_weights(self):
        draw = random.Random(190)
        for _ in range(2000):
            most = draw.choice((3, 20, 100000))
            weights = tuple(draw.choice((0, most, draw.randint(0, most))) for _ in range(draw.randint(0, 8)))
            total = draw.choice((draw.randint(0, 20), draw.randint(0, 1000000)))
            found = apportion(total, weights)
            self.assertExact(found, shares_by_definition(total, weights), (total, weights))
            self.assertExact(sum(found), total if sum(weights) else 0, (total, weights))


class LegalCosts(ExactCase):

    def test_no_loss(self):
        self.assertExact(legal_costs((), 3, 4), (3, 4, 0))
        self.assertExact(legal_costs(((70, None), (9, None)), 3, 4), (3, 4, 0))
        self.assertExact(legal_costs(((0, "claimant"), (0, "respondent")), 3, 4), (3, 4, 0))

    def test_the_loser_bears_everything(self):
        self.assertExact(legal_costs(((70, "claimant"),), 3, 4), (0, 7, -3))
        self.assertExact(legal_costs(((70, "respondent"),), 3, 4), (7, 0, 4))
        self.assertExact(legal_costs(((70, "respondent"), (500, None)), 3, 4), (7, 0, 4))
        self.assertExact(legal_costs(((70, "respondent"), (0, "claimant")), 3, 4), (7, 0, 4))

    def test_both_have_lost(self):
        claims = ((100, "claimant"), (50, "respondent"))
        self.assertExact(legal_costs(claims, 10, 5), (5, 10, -5))
        self.assertExact(legal_costs(claims, 0, 15), (5, 10, 5))
        self.assertExact(legal_costs(claims, 5, 10), (5, 10, 0))

    def test_several_claims_of_one_winner_are_added(self):
        claims = ((40, "claimant"), (60, "claimant"), (20, "respondent"), (30, "respondent"), (9, None))
        self.assertExact(legal_costs(claims, 10, 5), (5, 10, -5))

    def test_a_unit_that_is_left(self):
        claims = ((50, "claimant"), (50, "respondent"))
        self.assertExact(legal_costs(claims, 3, 4), (4, 3, 1))
        self.assertExact(legal_costs(((51, "claimant"), (50, "respondent")), 3, 4), (3, 4, 0))

    def test_nothing_was_paid(self):
        self.assertExact(legal_costs(((50, "claimant"),), 0, 0), (0, 0, 0))

    def test_drawn_claims(self):
        draw = random.Random(191)
        for _ in range(1500):
            most = draw.choice((2, 20, 10000))
            claims = tuple(
                (draw.randint(0, most), draw.choice(PARTIES + (None,))) for _ in range(draw.randint(0, 8))
            )
            paid = draw.randint(0, most), draw.randint(0, most)
            found = legal_costs(claims, *paid)
            self.assertExact(found, costs_by_definition(claims, *paid), (claims, paid))
            self.assertExact(found[0] + found[1], sum(paid), (claims, paid))


class Estates(ExactCase):

    def test_no_claims(self):
        self.assertExact(distribute(10, ()), ())

    def test_an_empty_estate(self):
        self.assertExact(distribute(0, ((1, 5), (2, 6))), (0, 0))

    def test_an_estate_that_just_covers_a_rank(self):
        claims = ((1, 4), (2, 6), (2, 3))
        self.assertExact(distribute(4, claims), (4, 0, 0))
        self.assertExact(distribute(13, claims), (4, 6, 3))
        self.assertExact(distribute(99, claims), (4, 6, 3))

    def test_an_estate_that_is_one_less(self):
        claims = ((1, 4), (2, 6), (2, 3))
        self.assertExact(distribute(3, claims), (3, 0, 0))
        self.assertExact(distribute(5, claims), (4, 1, 0))
        self.assertExact(distribute(12, claims), (4, 5, 3))

    def test_the_smallest_rank_comes_first_wherever_it_stands(self):
        self.assertExact(distribute(5, ((400, 4), (10, 3), (2, 1))), (1, 3, 1))

    def test_ranks_that_are_scattered(self):
        claims = ((3, 6), (1, 4), (3, 2), (1, 4), (3, 6))
        self.assertExact(distribute(18, claims), (4, 4, 2, 4, 4))
        self.assertExact(distribute(19, claims), (5, 4, 1, 4, 5))
        self.assertExact(distribute(7, claims), (0, 4, 0, 3, 0))

    def test_later_ranks_receive_nothing(self):
        self.assertExact(distribute(5, ((1, 6), (2, 0), (3, 1))), (5, 0, 0))
        self.assertExact(distribute(6, ((1, 6), (2, 0), (3, 1))), (6, 0, 0))
        self.assertExact(distribute(7, ((1, 6), (2, 0), (3, 1))), (6, 0, 1))

    def test_claims_of_zero(self):
        self.assertExact(distribute(5, ((1, 0), (1, 0))), (0, 0))
        self.assertExact(distribute(5, ((1, 0), (1, 9))), (0, 5))

    def test_more_than_eight_claims(self):
        self.assertExact(distribute(12, ((7, 3),) * 10), (2, 2) + (1,) * 8)

    def test_drawn_estates(self):
        draw = random.Random(194)
        for _ in range(2000):
            most = draw.choice((3, 20, 10000))
            claims = tuple(
                (draw.choice((0, 1, 2, draw.randint(0, 400))), draw.randint(0, most))
                for _ in range(draw.randint(0, 8))
            )
            whole = sum(amount for _, amount in claims)
            estate = draw.choice((draw.randint(0, whole + 2), draw.randint(0, most), whole))
            expected = distributed_by_definition(estate, claims)
            found = distribute(estate, claims)
            self.assertExact(found, expected, (estate, claims))
            self.assertExact(sum(found), min(estate, whole), (estate, claims))


if __name__ == "__main__":
    unittest.main()
