"""What everything that goes over the formulas of a cause needs.

What is said of a formula for the claimant is meant for its being true, and for the respondent for
its being false.
"""

from overturn.parties import opponent_of


def is_issue(cause):
    """Return whether the cause is an issue."""
    return cause[0] == "issue"


def count_issues(cause):
    """Return the number of the issues of the cause."""
    if is_issue(cause):
        return 1
    return count_issues(cause[1]) + count_issues(cause[2])


def split_row(cause, row):
    """Return the parts of a row for the two operands; it has one element for each issue."""
    many = count_issues(cause[1])
    return row[:many], row[many:]


def second_party(cause, party):
    """Return the party for which the second operand counts, where the formula counts for the party."""
    # "A unless B" means A and not B.
    if cause[0] == "unless":
        return opponent_of(party)
    return party


def needs_both(cause, party):
    """Return whether the party needs both operands of the formula, and not only one of them."""
    if cause[0] == "or":
        return party == "respondent"
    return party == "claimant"


def as_first(cause, assignment):
    """Return the assignment for the formula that constrains only the first operand, as this one does."""
    return assignment + "?" * count_issues(cause[2])


def as_second(cause, assignment):
    """Return the assignment for the formula that constrains only the second operand, as this one does."""
    return "?" * count_issues(cause[1]) + assignment
