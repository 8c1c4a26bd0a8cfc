"""Points 252, 253 and 254: what is due, costs, debts, estates, balances, final claims."""

import random
import unittest

from casedraw import draw_config, sound_cases
from casemodel import Model
from courtroom import draw_docket
from exact import ExactCase
from overturn.accounts import balances_after, net_debts
from overturn.reports import all_debts, amount_due, balance_of, case_costs, estate_of, final_claims
from overturn.reversals import is_final
from overturn.shares import distribute, legal_costs
from rooms import case_as, changed, claim_as, config_of, deliberating, judged

CONFIG = config_of("((a and (b+ or c!)) unless d)")
NO_INTEREST = config_of("((a and (b+ or c!)) unless d)", rate=0)


def won(amount=100, account=(0, 0)):
    return claim_as("11?0", amount=amount, account=account)


def lost(amount=100, account=(0, 0)):
    return claim_as("0???", amount=amount, account=account)


def undecided(amount=100, account=(0, 0)):
    return claim_as("1??0", amount=amount, account=account)


def due_by_definition(config, case, day, claim):
    model = Model(config, case)
    _, amount, (enforced, _), _ = case[11][claim]
    if model.ever_judged and model.winner(claim) == "claimant" and enforced == 0:
        return amount + amount * config[2] * (day - case[1]) // 3650000
    return None


def debts_by_definition(config, cases, day):
    """Return the debts of cases before they are netted."""
    debts = []
    for case in cases:
        model = Model(config, case)
        claimant, respondent = case[4]
        if not model.ever_judged:
            continue
        for claim in range(len(case[11])):
            due = due_by_definition(config, case, day, claim)
            if due is not None:
                debts.append((respondent, claimant, due))
        results = tuple((row[1], model.winner(claim)) for claim, row in enumerate(case[11]))
        owed = legal_costs(results, *case[10])[2]
        if owed:
            debts.append((claimant, respondent, owed) if owed > 0 else (respondent, claimant, -owed))
    return tuple(debts)


class AmountsDue(ExactCase):

    def test_with_interest_from_the_complaint(self):
        for day, due in ((0, 10000), (365, 11000), (364, 10997), (73, 10200)):
            case = case_as(won(10000))
            self.assertExact(amount_due(CONFIG, case, day, 0), due)
            self.assertExact(amount_due(NO_INTEREST, case, day, 0), 10000)
            later = case_as(won(10000), day=7, stage=judged(7))
            self.assertExact(amount_due(CONFIG, later, day + 7, 0), due)

    def test_not_always_something(self):
        case = case_as(won(), lost(), won(account=(1, 0)))
        self.assertExact([amount_due(CONFIG, case, 9, claim) for claim in range(3)], [100, None, None])
        open_case = case_as(won(), undecided(), ever_judged=False, stage=deliberating())
        self.assertExact([amount_due(CONFIG, open_case, 9, claim) for claim in (0, 1)], [None, None])
        opposed = changed(open_case, ever_judged=True)
        self.assertExact([amount_due(CONFIG, opposed, 9, claim) for claim in (0, 1)], [100, None])

    def test_neither_security_nor_an_appeal_matters(self):
        case = case_as(won(account=(0, 500)), stage=judged(0, named=(None, ((0, 0),)), first_appeal=1))
        self.assertExact(amount_due(CONFIG, case, 3, 0), 100)
        heard = case_as(won(), level=1, stage=deliberating((0, 0)))
        self.assertExact(amount_due(CONFIG, heard, 3, 0), 100)


class Costs(ExactCase):

    def test_by_the_losses(self):
        case = case_as(won(100), lost(50), undecided(70), fees=(10, 5), stage=deliberating())
        self.assertExact(case_costs(CONFIG, case), (5, 10, -5))
        self.assertExact(case_costs(CONFIG, case_as(won(), fees=(10, 5))), (0, 15, -10))
        self.assertExact(case_costs(CONFIG, case_as(lost(), fees=(10, 5))), (15, 0, 5))

    def test_nothing_lost(self):
        case = case_as(undecided(), fees=(10, 5), ever_judged=False, stage=deliberating())
        self.assertExact(case_costs(CONFIG, case), (10, 5, 0))

    def test_drawn_cases(self):
        for draw, config, case, _ in sound_cases(252, 200):
            case = changed(case, fees=(draw.randint(0, 40), draw.randint(0, 40)))
            model = Model(config, case)
            results = tuple((row[1], model.winner(claim)) for claim, row in enumerate(case[11]))
            self.assertExact(case_costs(config, case), legal_costs(results, *case[10]))


class Debts(ExactCase):

    def test_claims_and_costs(self):
        case = case_as(won(100), won(50), fees=(7, 0))
        self.assertExact(all_debts(NO_INTEREST, (case,), 9), ((2, 1, 157),))
        self.assertExact(all_debts(NO_INTEREST, (case_as(lost(), fees=(7, 4)),), 9), ((1, 2, 4),))
        self.assertExact(all_debts(NO_INTEREST, (case_as(lost(), fees=(7, 0)),), 9), ())
        self.assertExact(all_debts(NO_INTEREST, (), 9), ())

    def test_netted_over_the_cases(self):
        cases = (
            case_as(won(100), number=0, parties=(1, 2), fees=(0, 0)),
            case_as(won(30), number=1, parties=(2, 1), fees=(0, 0)),
            case_as(won(5), number=2, parties=(3, 1), fees=(0, 0)),
            case_as(won(70), number=3, parties=(2, 1), fees=(0, 0)),
        )
        self.assertExact(all_debts(NO_INTEREST, cases, 9), ((1, 3, 5),))
        self.assertExact(all_debts(NO_INTEREST, cases[:3], 9), ((2, 1, 70), (1, 3, 5)))

    def test_with_interest_until_the_day(self):
        case = case_as(won(10000), fees=(0, 0))
        self.assertExact(all_debts(CONFIG, (case,), 365), ((2, 1, 11000),))

    def test_a_case_without_a_judgment_counts_nothing(self):
        # Its costs would be apportioned, because the respondent has lost a claim already.
        case = case_as(won(), undecided(), fees=(7, 0), ever_judged=False, stage=deliberating())
        self.assertExact(case_costs(CONFIG, case)[2], -7)
        self.assertExact(all_debts(CONFIG, (case,), 9), ())
        self.assertExact(all_debts(NO_INTEREST, (changed(case, ever_judged=True),), 9), ((2, 1, 107),))

    def test_drawn_cases(self):
        draw = random.Random(253)
        for _ in range(150):
            config = draw_config(draw)
            docket = draw_docket(draw, config, draw.randint(1, 60))
            day = docket.day + draw.choice((0, 5, 300))
            expected = net_debts(debts_by_definition(config, docket.cases, day))
            self.assertExact(all_debts(config, docket.cases, day), expected)
            for case in docket.cases:
                for claim in range(len(case[11])):
                    due = due_by_definition(config, case, day, claim)
                    self.assertExact(amount_due(config, case, day, claim), due)


class Estates(ExactCase):

    def test_the_claims_of_the_respondent_by_the_days_of_their_complaints(self):
        cases = (
            case_as(won(60), won(40), number=0, day=3, parties=(1, 2), stage=judged(5)),
            case_as(won(70), number=1, day=2, parties=(3, 2), stage=judged(5)),
            case_as(won(90), number=2, day=2, parties=(2, 3), stage=judged(5)),
            case_as(won(30), lost(20), number=3, day=3, parties=(4, 2), stage=judged(5)),
        )
        found = estate_of(CONFIG, cases, 9, 2, 135)
        self.assertExact(found, ((0, 0, 30), (0, 1, 20), (1, 0, 70), (3, 0, 15)))
        self.assertExact(estate_of(CONFIG, cases, 9, 3, 100), ((2, 0, 90),))
        self.assertExact(estate_of(CONFIG, cases, 9, 1, 100), ())
        self.assertExact(estate_of(CONFIG, cases, 9, 2, 0), ((0, 0, 0), (0, 1, 0), (1, 0, 0), (3, 0, 0)))

    def test_the_amount_without_interest(self):
        case = case_as(won(10000))
        self.assertExact(amount_due(CONFIG, case, 365, 0), 11000)
        self.assertExact(estate_of(CONFIG, (case,), 365, 2, 100000), ((0, 0, 10000),))

    def test_only_claims_on_which_something_is_due(self):
        cases = (
            case_as(won(account=(50, 50)), lost(), won(10)),
            case_as(won(), undecided(), number=1, ever_judged=False, stage=deliberating()),
        )
        self.assertExact(estate_of(CONFIG, cases, 9, 2, 500), ((0, 2, 10),))

    def test_more_than_8_claims(self):
        cases = tuple(
            case_as(won(10), won(20), won(30), number=number, day=number, stage=judged(9)) for number in range(4)
        )
        found = estate_of(CONFIG, cases, 9, 2, 150)
        self.assertExact([units for _, _, units in found], [10, 20, 30, 10, 20, 30, 5, 10, 15, 0, 0, 0])

    def test_drawn_cases(self):
        draw = random.Random(2530)
        for _ in range(150):
            config = draw_config(draw)
            docket = draw_docket(draw, config, draw.randint(1, 60))
            day, person, amount = docket.day, draw.randint(0, 4), draw.choice((0, 60, 10000))
            found = [
                (case[0], claim, case[1], case[11][claim][1])
                for case in docket.cases for claim in range(len(case[11]))
                if case[4][1] == person and due_by_definition(config, case, day, claim) is not None
            ]
            units = distribute(amount, tuple(row[2:] for row in found))
            expected = tuple((*row[:2], unit) for row, unit in zip(found, units))
            self.assertExact(estate_of(config, docket.cases, day, person, amount), expected)


class BalancesOf(ExactCase):

    def test_as_the_claimant_and_as_the_respondent(self):
        case = case_as(won(account=(100, 150)), won(account=(0, 30)), fees=(7, 4))
        self.assertExact([balance_of((case,), person) for person in (1, 2, 3)], [-87, -104, 0])
        other = changed(case, number=1, parties=(2, 1))
        self.assertExact([balance_of((case, other), person) for person in (1, 2, 3)], [-191, -191, 0])
        self.assertExact(balance_of((), 1), 0)

    def test_the_balance_by_the_transfers(self):
        draw = random.Random(254)
        moved = 0
        for _ in range(120):
            docket = draw_docket(draw, draw_config(draw, courts=3), draw.randint(1, 70))
            by_transfers = dict(balances_after(docket.transfers))
            for person in range(10):
                self.assertExact(balance_of(docket.cases, person), by_transfers.get(person, 0))
            moved += sum(claim[2][0] > 0 for case in docket.cases for claim in case[11])
        self.assertGreater(moved, 10)


class FinalClaims(ExactCase):

    def test_in_the_order_of_cases_and_claims(self):
        cases = (
            case_as(won(), claim_as("11?0", barred=(0, 1, 3)), undecided(), stage=deliberating()),
            case_as(claim_as("11?0", barred=(0, 1, 3)), won(), number=1, level=2),
            case_as(won(), number=4),
        )
        self.assertExact(final_claims(CONFIG, cases, 9), ((0, 1), (1, 0), (1, 1)))
        self.assertExact(final_claims(CONFIG, cases, 31), ((0, 1), (1, 0), (1, 1), (4, 0)))
        self.assertExact(final_claims(CONFIG, (), 31), ())

    def test_drawn_cases(self):
        draw = random.Random(2540)
        for _ in range(80):
            config = draw_config(draw)
            docket = draw_docket(draw, config, draw.randint(1, 50))
            day = docket.day + draw.choice((0, 3, 30))
            expected = tuple(
                (case[0], claim) for case in docket.cases for claim in range(len(case[11]))
                if is_final(config, case, day, claim)
            )
            self.assertExact(final_claims(config, docket.cases, day), expected)


if __name__ == "__main__":
    unittest.main()
