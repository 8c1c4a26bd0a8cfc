"""What everything that goes over the formulas of a cause needs."""


def is_issue(cause):
    """Return whether the cause is an issue."""
    return cause[0] == "issue"


def count_issues(cause):
    """Return the number of the issues of the cause."""
    if is_issue(cause):
        return 1
    return count_issues(cause[1]) + count_issues(cause[2])


def split_row(cause, row):
    """Return the parts of a row for the two operands; it has one element for each issue."""
    many = count_issues(cause[1])
    return row[:many], row[many:]
