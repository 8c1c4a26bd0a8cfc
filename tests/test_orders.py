"""Point 225: stays, and the enforcement of the claims of a case."""

import unittest

from filingcase import CONFIG, FilingCase
from rooms import case_as, changed, claim_as, config_of, deliberating, judged

WON = claim_as("11?0")
LOST = claim_as("0???")
OPEN = claim_as("1??0")
CASE = case_as(WON, LOST, number=2, stage=judged(5))
NEW = case_as(OPEN, number=2, ever_judged=False, stage=deliberating())
STEPS = (("deposit", 5), ("enforce",), ("restitute",), ("release",))


def with_account(claim, account):
    return claim[:2] + (account,) + claim[3:]


class Stays(FilingCase):

    def test_behind_the_others_in_every_stage(self):
        heard = case_as(WON, level=1, stays=((3, 2),), stage=deliberating((0, 0)))
        for case in (CASE, NEW, heard, changed(CASE, level=2)):
            stays = case[8]
            self.accepted((), {"stays": stays + ((6, 9),)}, case, 6, "stay", 6, 9)
            self.accepted((), {"stays": stays + ((50, 50),)}, case, 6, "stay", 50, 50)

    def test_past(self):
        for last in (4, 5, 6, 99):
            self.rejected("past", CASE, 6, "stay", 5, last)
        self.accepted((), {"stays": ((6, 6),)}, CASE, 6, "stay", 6, 6)
        self.accepted((), {"stays": ((0, 0),)}, changed(CASE, stage=judged(0)), 0, "stay", 0, 0)

    def test_order(self):
        self.rejected("order", CASE, 6, "stay", 8, 7)
        self.rejected("order", CASE, 6, "stay", 400, 0)

    def test_long(self):
        self.accepted((), {"stays": ((8, 38),)}, CASE, 6, "stay", 8, 38)
        self.rejected("long", CASE, 6, "stay", 8, 39)
        self.rejected("long", CASE, 6, "stay", 6, 400)
        # It is counted from its own first day.
        self.accepted((), {"stays": ((90, 120),)}, CASE, 6, "stay", 90, 120)

    def test_many(self):
        five = ((1, 2),) * 5
        case = changed(CASE, stays=five)
        behind = self.accepted((), {"stays": five + ((6, 7),)}, case, 6, "stay", 6, 7)
        self.rejected("many", behind, 6, "stay", 6, 7)

    def test_the_order_of_the_reasons(self):
        full = changed(CASE, stays=((1, 2),) * 6)
        self.rejected("past", full, 6, "stay", 5, 4)
        self.rejected("past", full, 6, "stay", 5, 99)
        self.rejected("order", full, 6, "stay", 8, 7)
        self.rejected("long", full, 6, "stay", 8, 39)


class Steps(FilingCase):

    def test_unknown(self):
        for case in (CASE, NEW):
            for claim in (len(case[11]), 9):
                for word, *rest in STEPS:
                    self.rejected("unknown", case, 6, word, claim, *rest)

    def test_only_the_account_of_the_claim_changes(self):
        for case in (CASE, changed(CASE, level=2), changed(CASE, claims=(OPEN, LOST), stage=deliberating())):
            claims = (case[11][0], with_account(LOST, (0, 40)))
            self.accepted((40,), {"claims": claims}, case, 6, "deposit", 1, 40)
        full = changed(CASE, claims=(with_account(WON, (0, 999990)),))
        self.rejected("limit", full, 6, "deposit", 0, 11)
        self.accepted((10,), {"claims": (with_account(WON, (0, 1000000)),)}, full, 6, "deposit", 0, 10)

    def test_what_is_due(self):
        claim = claim_as("11?0", amount=10000)
        for rate, opened, day, due in (
            (500, 0, 365, 10500), (500, 0, 364, 10498), (500, 3, 367, 10498), (500, 3, 368, 10500),
            (0, 0, 400, 10000), (500, 365, 365, 10000),
        ):
            config = config_of("((a and (b+ or c!)) unless d)", rate=rate)
            case = case_as(claim, day=opened, stage=judged(opened))
            secured = changed(case, claims=(with_account(claim, (0, due)),))
            behind = {"claims": (with_account(claim, (due, due)),)}
            self.accepted((due,), behind, secured, day, "enforce", 0, config=config)

    def test_security_unless_the_claim_is_final(self):
        for security, expected in ((99, "security"), (100, None), (101, None)):
            case = changed(CASE, claims=(with_account(WON, (0, security)),))
            if expected is not None:
                self.rejected(expected, case, 6, "enforce", 0)
                continue
            behind = {"claims": (with_account(WON, (100, security)),)}
            self.accepted((100,), behind, case, 6, "enforce", 0)
        # The claim is final from day 36 on.
        config = config_of("((a and (b+ or c!)) unless d)", rate=0)
        self.rejected("security", CASE, 35, "enforce", 0, config=config)
        behind = {"claims": (with_account(WON, (100, 0)), LOST)}
        self.accepted((100,), behind, CASE, 36, "enforce", 0, config=config)
        # Of two claims one may be final and the other one not.
        final = claim_as("11?0", barred=(0, 1, 3))
        case = changed(CASE, claims=(WON, final))
        self.rejected("security", case, 6, "enforce", 0)
        self.accepted((100,), {"claims": (WON, with_account(final, (100, 0)))}, case, 6, "enforce", 1)

    def test_not_won(self):
        self.rejected("not won", CASE, 6, "enforce", 1)
        self.rejected("not won", NEW, 6, "enforce", 0)
        enforced = changed(CASE, claims=(with_account(WON, (60, 60)),))
        self.rejected("not won", enforced, 6, "restitute", 0)
        undecided = case_as(with_account(OPEN, (60, 60)), level=1, stage=deliberating())
        self.rejected("not won", undecided, 6, "restitute", 0)
        self.rejected("not won", undecided, 6, "enforce", 0)

    def test_never_judged(self):
        case = case_as(WON, OPEN, ever_judged=False, stage=deliberating())
        self.rejected("never judged", case, 6, "enforce", 0)
        behind = {"claims": (with_account(WON, (60, 100)), OPEN)}
        judged_before = changed(case, ever_judged=True)
        secured = changed(judged_before, claims=(with_account(WON, (0, 100)), OPEN))
        behind = {"claims": (with_account(WON, (100, 100)), OPEN)}
        self.accepted((100,), behind, secured, 6, "enforce", 0)

    def test_already_enforced(self):
        case = changed(CASE, claims=(with_account(WON, (1, 1000)),))
        self.rejected("already enforced", case, 6, "enforce", 0)

    def test_restitution(self):
        for account, behind in (((60, 80), (0, 20)), ((60, 60), (0, 0)), ((60, 10), (0, 0))):
            case = changed(CASE, claims=(with_account(LOST, account),))
            parts = {"claims": (with_account(LOST, behind),)}
            self.accepted((60,), parts, case, 6, "restitute", 0)
        self.rejected("nothing enforced", CASE, 6, "restitute", 1)

    def test_release(self):
        self.rejected("no security", CASE, 6, "release", 0)
        case = changed(CASE, claims=(with_account(WON, (0, 70)), with_account(LOST, (0, 30))))
        self.accepted((70,), {"claims": (WON, case[11][1])}, case, 6, "release", 0)
        self.accepted((30,), {"claims": (case[11][0], LOST)}, case, 6, "release", 1)
        enforced = changed(CASE, claims=(with_account(WON, (60, 70)), with_account(LOST, (60, 30))))
        for claim in (0, 1):
            self.rejected("required", enforced, 35, "release", claim)
        # From day 36 on both claims are final, but the claimant has won only one of them.
        parts = {"claims": (with_account(WON, (60, 0)), enforced[11][1])}
        self.accepted((70,), parts, enforced, 36, "release", 0)
        self.rejected("required", enforced, 36, "release", 1)

    def test_an_undecided_claim_is_not_final(self):
        case = case_as(with_account(OPEN, (60, 70)), level=2, stage=deliberating())
        self.rejected("required", case, 300, "release", 0)
        self.rejected("required", case, 300, "release", 0, config=CONFIG)


if __name__ == "__main__":
    unittest.main()
