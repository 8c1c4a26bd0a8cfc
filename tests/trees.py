"""Causes as the document defines them, by going through everything, for comparison."""

from itertools import product

PARTIES = ("claimant", "respondent")


def issue_total(cause):
    """Return the number of the issues of a cause."""
    return 1 if cause[0] == "issue" else issue_total(cause[1]) + issue_total(cause[2])


def is_true(cause, bits):
    """Return whether a cause is true where the issues are found as the bits say, one for each."""
    if cause[0] == "issue":
        return bits[0] == "1"
    many = issue_total(cause[1])
    first, second = is_true(cause[1], bits[:many]), is_true(cause[2], bits[many:])
    if cause[0] == "and":
        return first and second
    if cause[0] == "or":
        return first or second
    return first and not second


def value_by_all(cause, findings):
    """Return the value that a cause has however the undetermined issues are decided, or None."""
    choices = product(*("01" if letter == "?" else letter for letter in findings))
    values = {is_true(cause, bits) for bits in choices}
    return values.pop() if len(values) == 1 else None


def formulas_of(cause, begin=0):
    """Return the formulas of a cause with the numbers of their first and behind their last issue."""
    found = [(cause, begin, begin + issue_total(cause))]
    if cause[0] != "issue":
        found = found + formulas_of(cause[1], begin)
        found = found + formulas_of(cause[2], begin + issue_total(cause[1]))
    return found


def relevant_by_definition(cause, findings):
    """Return the issues that are undetermined and in no formula that has a value."""
    decided = set()
    for formula, begin, end in formulas_of(cause):
        if value_by_all(formula, findings[begin:end]) is not None:
            decided.update(range(begin, end))
    return tuple(issue for issue in range(len(findings)) if issue not in decided)


def extensions_of(findings):
    """Return all findings that extend the given ones."""
    return ["".join(row) for row in product(*("?01" if c == "?" else c for c in findings))]


def replaced(findings, issue, finding):
    """Return the findings with the finding True or False on the issue."""
    return findings[:issue] + ("1" if finding else "0") + findings[issue + 1:]
