"""Relevant issues, least rulings and stalling findings."""

from overturn.causes import value_of
from overturn.costsums import cost_sum, smaller_cost
from overturn.formulas import is_issue, split_row

# The least rulings for an issue being true, and for its being false.
ISSUE_RULINGS = {"1": (0, None), "0": (None, 0), "?": (1, 1)}


def relevant_issues(cause, findings):
    """Return the numbers of the relevant issues, ascending."""
    if value_of(cause, findings) is not None:
        return ()
    if is_issue(cause):
        return (0,)
    first_part, second_part = split_row(cause, findings)
    behind = len(first_part)
    second = relevant_issues(cause[2], second_part)
    return relevant_issues(cause[1], first_part) + tuple([behind + issue for issue in second])


def rulings_for(cause, findings):
    """Return the least rulings for the cause being true, and for its being false."""
    if is_issue(cause):
        return ISSUE_RULINGS[findings]
    first_part, second_part = split_row(cause, findings)
    first_true, first_false = rulings_for(cause[1], first_part)
    second_true, second_false = rulings_for(cause[2], second_part)
    if cause[0] == "or":
        return smaller_cost(first_true, second_true), cost_sum(first_false, second_false)
    if cause[0] == "unless":
        # "A unless B" means A and not B.
        second_true, second_false = second_false, second_true
    return cost_sum(first_true, second_true), smaller_cost(first_false, second_false)


def least_rulings(cause, findings, party):
    """Return the least rulings of the party, or None if it is the winner by no findings."""
    if_true, if_false = rulings_for(cause, findings)
    return if_true if party == "claimant" else if_false


def finding_for(cause, findings, issue, value):
    """Return the finding on the issue behind which the cause has the value, True or False."""
    found_true = findings[:issue] + "1" + findings[issue + 1:]
    return value_of(cause, found_true) == value


def stalling_within(cause, findings, issue):
    """Return the stalling finding as far as the formulas of the cause tell it, otherwise None."""
    if is_issue(cause):
        return None
    connective, operand, other = cause
    part, other_part = split_row(cause, findings)
    wanted = connective != "or"
    if issue >= len(part):
        issue -= len(part)
        operand, other, part, other_part = other, operand, other_part, part
        wanted = connective == "and"
    innermost = stalling_within(operand, part, issue)
    if innermost is None and value_of(other, other_part) is None:
        return finding_for(operand, part, issue, wanted)
    return innermost


def stalling_finding(cause, findings, issue):
    """Return the stalling finding for an issue that is relevant."""
    finding = stalling_within(cause, findings, issue)
    return True if finding is None else finding
