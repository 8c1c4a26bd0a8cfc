"""Point 195: balances by transfers, and netted debts."""

import random
import unittest

from exact import ExactCase
from overturn.accounts import balances_after, net_debts


class Balances(ExactCase):

    def test_nothing(self):
        self.assertExact(balances_after(()), ())

    def test_the_court_is_not_listed(self):
        self.assertExact(balances_after(((None, None, 5),)), ())
        self.assertExact(balances_after(((None, 3, 5), (4, None, 6))), ((3, 5), (4, -6)))

    def test_a_balance_of_0_is_listed(self):
        self.assertExact(balances_after(((5, 1, 4), (1, 5, 4))), ((1, 0), (5, 0)))
        self.assertExact(balances_after(((5, 1, 0),)), ((1, 0), (5, 0)))

    def test_a_person_may_pay_itself(self):
        self.assertExact(balances_after(((2, 2, 9),)), ((2, 0),))
        self.assertExact(balances_after(((2, 2, 9), (2, 1, 3), (0, 2, 1))), ((0, -1), (1, 3), (2, -2)))

    def test_only_persons_that_pay_or_receive(self):
        self.assertExact(balances_after(((9, None, 1000000), (9, 0, 1000000))), ((0, 1000000), (9, -2000000)))

    def test_drawn_transfers(self):
        draw = random.Random(195)
        persons = (None, 0, 1, 2, 3, 9)
        for _ in range(500):
            transfers = tuple(
                (draw.choice(persons), draw.choice(persons), draw.choice((0, 1, draw.randint(0, 1000000))))
                for _ in range(draw.randint(0, 12))
            )
            expected = []
            for person in range(10):
                paid = [amount for payer, _, amount in transfers if payer == person]
                received = [amount for _, payee, amount in transfers if payee == person]
                if paid or received:
                    expected.append((person, sum(received) - sum(paid)))
            self.assertExact(balances_after(transfers), tuple(expected), transfers)


def netted_by_definition(debts):
    """Return the netted debts, pair by pair of all persons."""
    netted = []
    for smaller in range(10):
        for greater in range(smaller + 1, 10):
            one = sum(amount for d, c, amount in debts if (d, c) == (smaller, greater))
            other = sum(amount for d, c, amount in debts if (d, c) == (greater, smaller))
            if one > other:
                netted.append((smaller, greater, one - other))
            if other > one:
                netted.append((greater, smaller, other - one))
    return tuple(netted)


class Netting(ExactCase):

    def test_nothing(self):
        self.assertExact(net_debts(()), ())
        self.assertExact(net_debts(((3, 3, 8),)), ())
        self.assertExact(net_debts(((3, 4, 0),)), ())

    def test_debts_both_ways(self):
        self.assertExact(net_debts(((1, 0, 5), (0, 1, 5))), ())
        self.assertExact(net_debts(((1, 0, 5), (0, 1, 4))), ((1, 0, 1),))
        self.assertExact(net_debts(((1, 0, 5), (0, 1, 6))), ((0, 1, 1),))

    def test_debts_to_itself_go(self):
        self.assertExact(net_debts(((2, 2, 9), (2, 1, 3), (1, 1, 5))), ((2, 1, 3),))

    def test_debts_are_not_netted_around(self):
        debts = ((0, 1, 5), (1, 2, 5), (2, 0, 5))
        self.assertExact(net_debts(debts), ((0, 1, 5), (2, 0, 5), (1, 2, 5)))

    def test_the_order_whoever_is_the_debtor(self):
        debts = ((3, 2, 1), (9, 0, 2), (1, 2, 3), (2, 0, 4), (1, 0, 5), (0, 3, 6), (4, 1, 7))
        expected = ((1, 0, 5), (2, 0, 4), (0, 3, 6), (9, 0, 2), (1, 2, 3), (4, 1, 7), (3, 2, 1))
        self.assertExact(net_debts(debts), expected)

    def test_drawn_debts(self):
        draw = random.Random(1950)
        for _ in range(500):
            most = draw.choice((2, 3, 9))
            debts = tuple(
                (draw.randint(0, most), draw.randint(0, most), draw.choice((0, 1, 2, 10000)))
                for _ in range(draw.randint(0, 12))
            )
            self.assertExact(net_debts(debts), netted_by_definition(debts), debts)


if __name__ == "__main__":
    unittest.main()
