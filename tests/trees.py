"""Causes as the document defines them, by going through everything, for comparison."""

from itertools import product

PARTIES = ("claimant", "respondent")


def issue_total(cause):
    """Return the number of the issues of a cause."""
    return 1 if cause[0] == "issue" else issue_total(cause[1]) + issue_total(cause[2])


def is_true(cause, bits):
    """Return whether a cause is true where the issues are found as the bits say, one for each."""
    if cause[0] == "issue":
        return bits[0] == "1"
    many = issue_total(cause[1])
    first, second = is_true(cause[1], bits[:many]), is_true(cause[2], bits[many:])
    if cause[0] == "and":
        return first and second
    if cause[0] == "or":
        return first or second
    return first and not second


def value_by_all(cause, findings):
    """Return the value that a cause has however the undetermined issues are decided, or None."""
    choices = product(*("01" if letter == "?" else letter for letter in findings))
    values = {is_true(cause, bits) for bits in choices}
    return values.pop() if len(values) == 1 else None


def formulas_of(cause, begin=0):
    """Return the formulas of a cause with the numbers of their first and behind their last issue."""
    found = [(cause, begin, begin + issue_total(cause))]
    if cause[0] != "issue":
        found = found + formulas_of(cause[1], begin)
        found = found + formulas_of(cause[2], begin + issue_total(cause[1]))
    return found


def relevant_by_definition(cause, findings):
    """Return the issues that are undetermined and in no formula that has a value."""
    decided = set()
    for formula, begin, end in formulas_of(cause):
        if value_by_all(formula, findings[begin:end]) is not None:
            decided.update(range(begin, end))
    return tuple(issue for issue in range(len(findings)) if issue not in decided)


def extensions_of(findings):
    """Return all findings that extend the given ones."""
    return ["".join(row) for row in product(*("?01" if c == "?" else c for c in findings))]


def replaced(findings, issue, finding):
    """Return the findings with the finding True or False on the issue."""
    return findings[:issue] + ("1" if finding else "0") + findings[issue + 1:]


# For each connective and outcome: whether both operands are needed or one of them, and the outcomes
# of the first and of the second operand that count for it.
OUTCOMES = {
    ("and", True): ("both", True, True),
    ("and", False): ("one", False, False),
    ("or", True): ("one", True, True),
    ("or", False): ("both", False, False),
    ("unless", True): ("both", True, False),
    ("unless", False): ("one", False, True),
}
INFINITE = float("inf")


def is_win(cause, assignment, party):
    """Return whether an assignment makes a party win."""
    return value_by_all(cause, assignment) is (party == "claimant")


def all_assignments(issues):
    """Return all assignments on so many issues."""
    return ["".join(row) for row in product("?01", repeat=issues)]


def number_of(cost):
    """Return a cost as a number."""
    return INFINITE if cost is None else cost


def cost_of(number):
    """Return a number as a cost."""
    return None if number == INFINITE else number


def assignment_number(costs, assignment):
    """Return the cost of an assignment as a number."""
    total = 0
    for (if_true, if_false), letter in zip(costs, assignment):
        total += {"1": number_of(if_true), "0": number_of(if_false), "?": 0}[letter]
    return total


def least_by_table(cause, costs, outcome):
    """Return the least cost of an outcome as a number, and the least-cost assignment, by the tables."""
    if cause[0] == "issue":
        return number_of(costs[0][0 if outcome else 1]), "1" if outcome else "0"
    needed, first, second = OUTCOMES[cause[0], outcome]
    many = issue_total(cause[1])
    cost, assignment = least_by_table(cause[1], costs[:many], first)
    other, other_assignment = least_by_table(cause[2], costs[many:], second)
    if needed == "both":
        return cost + other, assignment + other_assignment
    if cost <= other:
        return cost, assignment + "?" * (len(costs) - many)
    return other, "?" * many + other_assignment


def grounds_by_table(cause, outcome):
    """Return the grounds for an outcome by the table of the document."""
    if cause[0] == "issue":
        return ["1" if outcome else "0"]
    needed, first, second = OUTCOMES[cause[0], outcome]
    grounds, others = grounds_by_table(cause[1], first), grounds_by_table(cause[2], second)
    if needed == "both":
        return [ground + other for ground, other in product(grounds, others)]
    many, rest = issue_total(cause[1]), issue_total(cause[2])
    return [ground + "?" * rest for ground in grounds] + ["?" * many + other for other in others]


def merged_by_places(first, second):
    """Return two merged packings: the weights are laid out side by side and cut at all their ends."""
    rows = []
    for packing in (first, second):
        row, begin = [], 0
        for assignment, weight in packing:
            end = begin + number_of(weight)
            if end > begin:
                row.append((begin, end, assignment))
            begin = end
        rows.append(row)
    pieces = []
    for begin, end, assignment in rows[0]:
        for other_begin, other_end, other in rows[1]:
            low, high = max(begin, other_begin), min(end, other_end)
            if low < high:
                both = [a if b == "?" else b for a, b in zip(assignment, other)]
                pieces.append((low, "".join(both), cost_of(high - low)))
    return tuple((assignment, weight) for _, assignment, weight in sorted(pieces, key=lambda p: p[0]))


def packing_by_table(cause, costs, outcome):
    """Return the packing for an outcome by the document."""
    if cause[0] == "issue":
        required, opposite = costs[0] if outcome else costs[0][::-1]
        return (("1" if outcome else "0", opposite),) if required == 0 and opposite != 0 else ()
    needed, first, second = OUTCOMES[cause[0], outcome]
    many, rest = issue_total(cause[1]), issue_total(cause[2])
    packing = tuple((a + "?" * rest, w) for a, w in packing_by_table(cause[1], costs[:many], first))
    other = tuple(("?" * many + a, w) for a, w in packing_by_table(cause[2], costs[many:], second))
    return merged_by_places(packing, other) if needed == "both" else packing + other


def total_number(packing):
    """Return the total of a packing as a number."""
    return sum(number_of(weight) for _, weight in packing)


def is_within_capacities(costs, packing):
    """Return whether a packing respects the capacities for the costs."""
    for issue, (if_true, if_false) in enumerate(costs):
        for letter, capacity in (("1", if_false), ("0", if_true)):
            load = total_number([member for member in packing if member[0][issue] == letter])
            if load > number_of(capacity):
                return False
    return True
