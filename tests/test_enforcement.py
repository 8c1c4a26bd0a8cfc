"""Point 193: accounts of claims and enforcement steps."""

import random
import unittest
from itertools import product

from exact import ExactCase
from overturn.enforcement import enforcement_step

WINNERS = ("claimant", "respondent", None)
STATUSES = tuple(product(WINNERS, (True, False), (True, False)))
MOST = 1000000


def step_by_table(account, status, step):
    """Return what a step tells by the table of the document."""
    enforced, security = account
    winner, ever_judged, final = status
    word, amount = step[0], step[-1]
    reasons = {
        "deposit": [("limit", security + step[-1] > MOST if word == "deposit" else False)],
        "enforce": [
            ("not won", winner != "claimant"),
            ("never judged", not ever_judged),
            ("already enforced", enforced != 0),
            ("security", word == "enforce" and not final and security < amount),
        ],
        "restitute": [("not won", winner != "respondent"), ("nothing enforced", enforced == 0)],
        "release": [
            ("no security", security == 0),
            ("required", enforced != 0 and not (winner == "claimant" and final)),
        ],
    }[word]
    for reason, applies in reasons:
        if applies:
            return reason, 0, account
    return {
        "deposit": lambda: (None, amount, (enforced, security + amount)),
        "enforce": lambda: (None, amount, (amount, security)),
        "restitute": lambda: (None, enforced, (0, max(0, security - enforced))),
        "release": lambda: (None, security, (enforced, 0)),
    }[word]()


class Deposits(ExactCase):

    def test_a_deposit_increases_the_security_in_every_status(self):
        for status in STATUSES:
            self.assertExact(enforcement_step((0, 0), status, ("deposit", 1)), (None, 1, (0, 1)))
            self.assertExact(enforcement_step((7, 5), status, ("deposit", 12)), (None, 12, (7, 17)))

    def test_the_limit(self):
        status = ("claimant", True, True)
        for security, amount in ((0, MOST), (MOST - 1, 1), (400000, 600000)):
            found = enforcement_step((3, security), status, ("deposit", amount))
            self.assertExact(found, (None, amount, (3, MOST)))
        for security, amount in ((1, MOST), (MOST, 1), (400000, 600001)):
            found = enforcement_step((3, security), status, ("deposit", amount))
            self.assertExact(found, ("limit", 0, (3, security)))


class Enforcements(ExactCase):

    STATUS = ("claimant", True, False)

    def test_against_security(self):
        found = enforcement_step((0, 10), self.STATUS, ("enforce", 10))
        self.assertExact(found, (None, 10, (10, 10)))
        found = enforcement_step((0, 9), self.STATUS, ("enforce", 10))
        self.assertExact(found, ("security", 0, (0, 9)))
        found = enforcement_step((0, 0), self.STATUS, ("enforce", 1))
        self.assertExact(found, ("security", 0, (0, 0)))

    def test_a_final_claim_needs_no_security(self):
        found = enforcement_step((0, 0), ("claimant", True, True), ("enforce", MOST))
        self.assertExact(found, (None, MOST, (MOST, 0)))
        found = enforcement_step((0, 9), ("claimant", True, True), ("enforce", 10))
        self.assertExact(found, (None, 10, (10, 9)))

    def test_each_reason_alone(self):
        for winner in ("respondent", None):
            found = enforcement_step((0, 10), (winner, True, False), ("enforce", 10))
            self.assertExact(found, ("not won", 0, (0, 10)))
        found = enforcement_step((0, 10), ("claimant", False, False), ("enforce", 10))
        self.assertExact(found, ("never judged", 0, (0, 10)))
        found = enforcement_step((0, 10), ("claimant", False, True), ("enforce", 10))
        self.assertExact(found, ("never judged", 0, (0, 10)))
        found = enforcement_step((1, 10), self.STATUS, ("enforce", 10))
        self.assertExact(found, ("already enforced", 0, (1, 10)))
        found = enforcement_step((1, 10), ("claimant", True, True), ("enforce", 10))
        self.assertExact(found, ("already enforced", 0, (1, 10)))

    def test_the_order_of_the_reasons(self):
        found = enforcement_step((1, 0), ("respondent", False, False), ("enforce", 10))
        self.assertExact(found, ("not won", 0, (1, 0)))
        found = enforcement_step((1, 0), ("claimant", False, False), ("enforce", 10))
        self.assertExact(found, ("never judged", 0, (1, 0)))
        found = enforcement_step((1, 0), ("claimant", True, False), ("enforce", 10))
        self.assertExact(found, ("already enforced", 0, (1, 0)))


class Restitutions(ExactCase):

    STATUS = ("respondent", True, False)

    def test_the_security_decreases_but_not_below_0(self):
        for account, behind in (((10, 12), 2), ((10, 10), 0), ((10, 9), 0), ((10, 0), 0)):
            found = enforcement_step(account, self.STATUS, ("restitute",))
            self.assertExact(found, (None, 10, (0, behind)))

    def test_the_status_matters_only_by_the_winner(self):
        for ever_judged, final in product((True, False), repeat=2):
            found = enforcement_step((4, 5), ("respondent", ever_judged, final), ("restitute",))
            self.assertExact(found, (None, 4, (0, 1)))

    def test_the_reasons_in_their_order(self):
        for winner in ("claimant", None):
            for account in ((4, 5), (0, 5)):
                found = enforcement_step(account, (winner, True, True), ("restitute",))
                self.assertExact(found, ("not won", 0, account))
        found = enforcement_step((0, 5), self.STATUS, ("restitute",))
        self.assertExact(found, ("nothing enforced", 0, (0, 5)))


class Releases(ExactCase):

    def test_nothing_enforced(self):
        for status in STATUSES:
            found = enforcement_step((0, 5), status, ("release",))
            self.assertExact(found, (None, 5, (0, 0)), status)

    def test_something_enforced(self):
        for status in STATUSES:
            found = enforcement_step((3, 5), status, ("release",))
            winner, _, final = status
            if winner == "claimant" and final:
                self.assertExact(found, (None, 5, (3, 0)), status)
            else:
                self.assertExact(found, ("required", 0, (3, 5)), status)

    def test_no_security_comes_first(self):
        for account in ((0, 0), (3, 0)):
            for status in STATUSES:
                found = enforcement_step(account, status, ("release",))
                self.assertExact(found, ("no security", 0, account))


class AllSteps(ExactCase):

    def test_by_the_table(self):
        draw = random.Random(193)
        amounts = (0, 0, 1, 9, 10, 11, MOST - 1, MOST)
        for _ in range(4000):
            account = (draw.choice(amounts), draw.choice(amounts))
            status = draw.choice(STATUSES)
            step = draw.choice((
                ("deposit", draw.choice(amounts[2:])),
                ("enforce", draw.choice(amounts[2:])),
                ("restitute",),
                ("release",),
            ))
            found = enforcement_step(account, status, step)
            self.assertExact(found, step_by_table(account, status, step), (account, status, step))


if __name__ == "__main__":
    unittest.main()
