"""What a docket holds, as a tuple, and how a filing changes it.

A ledger is a tuple of the cases, the precedents and the transfers of a docket. It never changes, so
that a docket can keep the earlier ones.
"""

from overturn.cases import issue_at
from overturn.complaints import opened
from overturn.filings import processed
from overturn.precedents import record_precedent
from overturn.records import CHAIN, CLAIMS, FEES, NUMBER, PARTIES, of_party
from overturn.rulings import ruling_level


def with_ruling(config, precedents, case, filing, finding):
    """Return the precedents behind an accepted ruling in the case, which is told as before it."""
    _, _, claim, issue, _, tags = filing
    _, of_law, _, _ = issue_at(config, case, (claim, issue))
    if not of_law:
        return precedents
    court = case[CHAIN][ruling_level(case)]
    cause = case[CLAIMS][claim][0]
    precedent = (case[NUMBER], claim, issue, cause, court, finding, tags)
    return record_precedent(precedents, precedent)


def transfers_of(config, case, filing, numbers):
    """Return the transfers of an accepted filing in the case, a tuple of at most one."""
    claimant, respondent = case[PARTIES]
    word = filing[0]
    if word == "appeal":
        return ((of_party(case[PARTIES], filing[2]), None, config[3][numbers[0]][7]),)
    if word == "deposit":
        return ((claimant, None, numbers[0]),)
    if word == "enforce":
        return ((respondent, claimant, numbers[0]),)
    if word == "restitute":
        return ((None, respondent, numbers[0]),)
    if word == "release":
        return ((None, claimant, numbers[0]),)
    return ()


def with_complaint(config, ledger, day, filing):
    """Return what a complaint tells, a reason and numbers, and the ledger behind it."""
    cases, precedents, transfers = ledger
    reason, numbers, case = opened(config, precedents, len(cases), day, filing)
    if reason is not None:
        return (reason, numbers), ledger
    transfer = (case[PARTIES][0], None, case[FEES][0])
    return (None, numbers), (cases + (case,), precedents, transfers + (transfer,))


def with_filing(config, ledger, day, filing):
    """Return what a filing in a case tells, a reason and numbers, and the ledger behind it."""
    cases, precedents, transfers = ledger
    number = filing[1]
    if number >= len(cases):
        return ("no case", ()), ledger
    case = cases[number]
    reason, numbers, changed = processed(config, case, day, filing)
    if reason is not None:
        return (reason, numbers), ledger
    if filing[0] == "ruling":
        precedents = with_ruling(config, precedents, case, filing, numbers == (1,))
    transfers = transfers + transfers_of(config, case, filing, numbers)
    return (None, numbers), (cases[:number] + (changed,) + cases[number + 1:], precedents, transfers)


def filed(config, ledger, day, filing):
    """Return what the filing tells, a reason and numbers, and the ledger behind it."""
    if filing[0] == "heartbeat":
        return (None, ()), ledger
    if filing[0] == "complaint":
        return with_complaint(config, ledger, day, filing)
    return with_filing(config, ledger, day, filing)
