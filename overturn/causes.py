"""Causes: their issues, depths, values and winners."""

from overturn.formulas import is_issue, second_party, split_row

VALUES = {"1": True, "0": False, "?": None}
WINNERS = {True: "claimant", False: "respondent", None: None}


def issues_within(cause, party):
    """Return what issues_of returns for a formula whose first issue is one of the party."""
    if is_issue(cause):
        return (cause[1:] + (party,),)
    second = issues_within(cause[2], second_party(cause, party))
    return issues_within(cause[1], party) + second


def issues_of(cause):
    """Return the name, whether it is of law, the majority and the party of each issue."""
    return issues_within(cause, "claimant")


def depth_of(cause):
    """Return the depth of the cause."""
    if is_issue(cause):
        return 0
    return 1 + max(depth_of(cause[1]), depth_of(cause[2]))


def opposite(value):
    """Return the value of "not A", where A has the value."""
    if value is None:
        return None
    return not value


def both(first, second):
    """Return the value of "A and B", where A and B have the two values."""
    if first is False or second is False:
        return False
    if first is None or second is None:
        return None
    return True


def value_of(cause, findings):
    """Return the value of the cause under the findings, True, False or None."""
    if is_issue(cause):
        return VALUES[findings]
    first_part, second_part = split_row(cause, findings)
    first = value_of(cause[1], first_part)
    second = value_of(cause[2], second_part)
    if cause[0] == "and":
        return both(first, second)
    if cause[0] == "unless":
        return both(first, opposite(second))
    return opposite(both(opposite(first), opposite(second)))


def winner_by(cause, findings):
    """Return the party that is the winner by the findings, or None."""
    return WINNERS[value_of(cause, findings)]
