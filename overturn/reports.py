"""Reports on cases: what is due, costs, debts, estates, balances and final claims."""

from overturn.accounts import net_debts
from overturn.cases import claim_winner
from overturn.orders import amount_with_interest
from overturn.records import CLAIMS, EVER_JUDGED, FEES, NUMBER, OPENED, PARTIES
from overturn.reversals import is_final
from overturn.shares import distribute, legal_costs


def amount_due(config, case, day, claim):
    """Return what is due on the claim on the day, or None."""
    enforced, _ = case[CLAIMS][claim][2]
    if not case[EVER_JUDGED] or enforced != 0:
        return None
    if claim_winner(config, case, claim) != "claimant":
        return None
    return amount_with_interest(config, case, day, claim)


def claims_due(config, case, day):
    """Return the numbers of the claims of the case on which something is due on the day."""
    claims = range(len(case[CLAIMS]))
    return [claim for claim in claims if amount_due(config, case, day, claim) is not None]


def case_costs(config, case):
    """Return what the claimant and the respondent bear of the costs and what the claimant owes."""
    claimant_paid, respondent_paid = case[FEES]
    results = tuple([
        (amount, claim_winner(config, case, claim))
        for claim, (_, amount, _, _) in enumerate(case[CLAIMS])
    ])
    return legal_costs(results, claimant_paid, respondent_paid)


def debts_of(config, case, day):
    """Return the debts of a case in which a judgment was given, before they are netted."""
    claimant, respondent = case[PARTIES]
    debts = [
        (respondent, claimant, amount_due(config, case, day, claim))
        for claim in claims_due(config, case, day)
    ]
    _, _, owed = case_costs(config, case)
    if owed > 0:
        debts.append((claimant, respondent, owed))
    if owed < 0:
        debts.append((respondent, claimant, -owed))
    return debts


def all_debts(config, cases, day):
    """Return the netted debts of the cases on the day."""
    debts = []
    for case in cases:
        if case[EVER_JUDGED]:
            debts.extend(debts_of(config, case, day))
    return net_debts(tuple(debts))


def estate_of(config, cases, day, person, amount):
    """Return the case, the claim and what it receives of the estate of the person, for each claim."""
    found = [
        (case, claim)
        for case in cases if case[PARTIES][1] == person
        for claim in claims_due(config, case, day)
    ]
    claims = tuple([(case[OPENED], case[CLAIMS][claim][1]) for case, claim in found])
    shares = distribute(amount, claims)
    return tuple([
        (case[NUMBER], claim, units) for (case, claim), units in zip(found, shares)
    ])


def balance_in(case, person):
    """Return the balance of the person in the case."""
    claimant, respondent = case[PARTIES]
    claimant_paid, respondent_paid = case[FEES]
    enforced = sum([account[0] for _, _, account, _ in case[CLAIMS]])
    secured = sum([account[1] for _, _, account, _ in case[CLAIMS]])
    if person == claimant:
        return enforced - secured - claimant_paid
    if person == respondent:
        return -enforced - respondent_paid
    return 0


def balance_of(cases, person):
    """Return the balance of the person in the cases."""
    return sum([balance_in(case, person) for case in cases])


def final_claims(config, cases, day):
    """Return the numbers of case and claim of the claims that are final on the day, ascending."""
    return tuple([
        (case[NUMBER], claim)
        for case in cases for claim in range(len(case[CLAIMS]))
        if is_final(config, case, day, claim)
    ])
