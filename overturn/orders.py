"""Filings on stays and on the enforcement of claims."""

from overturn.accrual import interest_on
from overturn.cases import claim_winner
from overturn.enforcement import enforcement_step
from overturn.records import (
    CLAIMS, EVER_JUDGED, OPENED, STAYS, has_claim, refused, with_parts,
)
from overturn.reversals import is_final

MOST_STAYS = 6
LONGEST_STAY = 30


def stay_reason(case, day, first, last):
    """Return the reason for which a stay is rejected, or None."""
    if first < day:
        return "past"
    if last < first:
        return "order"
    if last > first + LONGEST_STAY:
        return "long"
    if len(case[STAYS]) >= MOST_STAYS:
        return "many"
    return None


def stay(config, case, day, filing):
    """Return what a stay tells."""
    _, _, first, last = filing
    reason = stay_reason(case, day, first, last)
    if reason is not None:
        return refused(reason, case)
    return None, (), with_parts(case, {STAYS: case[STAYS] + ((first, last),)})


def amount_with_interest(config, case, day, claim):
    """Return the amount of the claim with the interest on it from the complaint to the day."""
    amount = case[CLAIMS][claim][1]
    return amount + interest_on(amount, config[2], day - case[OPENED])


def step_of(config, case, day, filing):
    """Return the enforcement step that the filing is."""
    word, _, claim = filing[:3]
    if word == "deposit":
        return word, filing[3]
    if word == "enforce":
        return word, amount_with_interest(config, case, day, claim)
    return (word,)


def status_of(config, case, day, claim):
    """Return the status of the claim on the day."""
    winner = claim_winner(config, case, claim)
    return winner, case[EVER_JUDGED], is_final(config, case, day, claim)


def with_account(case, claim, account):
    """Return the case with another account of the claim."""
    claims = case[CLAIMS]
    cause, amount, _, issues = claims[claim]
    changed = claims[:claim] + ((cause, amount, account, issues),) + claims[claim + 1:]
    return with_parts(case, {CLAIMS: changed})


def step(config, case, day, filing):
    """Return what a deposit, an enforcement, a restitution or a release tells."""
    claim = filing[2]
    if not has_claim(case, claim):
        return refused("unknown", case)
    account = case[CLAIMS][claim][2]
    status = status_of(config, case, day, claim)
    reason, amount, account = enforcement_step(account, status, step_of(config, case, day, filing))
    if reason is not None:
        return refused(reason, case)
    return None, (amount,), with_account(case, claim, account)
