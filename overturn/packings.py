"""Packings: weighted assignments that respect capacities, and certificates."""

from overturn.causes import winner_by
from overturn.costs import assignment_cost
from overturn.costsums import cost_left, is_greater_cost, smaller_cost, total_cost
from overturn.errors import TwoWays
from overturn.formulas import as_first, as_second, is_issue, needs_both, second_party, split_row
from overturn.parties import opponent_of


def total_weight(packing):
    """Return the total of the packing."""
    return total_cost([weight for _, weight in packing])


def weighted(packing):
    """Return the members of the packing whose weight is not 0."""
    return [(assignment, weight) for assignment, weight in packing if weight != 0]


def without_weight(packing, taken):
    """Return the packing with so much taken from its first member, without members of the weight 0."""
    assignment, weight = packing[0]
    return weighted([(assignment, cost_left(weight, taken))] + packing[1:])


def combined(first, second):
    """Return the assignment that constrains the issues of both assignments."""
    return "".join([
        other if letter == "?" else letter for letter, other in zip(first, second)
    ])


def merged(first, second):
    """Return the result of merging the two packings."""
    first, second = weighted(first), weighted(second)
    result = []
    while first and second:
        weight = smaller_cost(first[0][1], second[0][1])
        result.append((combined(first[0][0], second[0][0]), weight))
        # Two infinite weights would never be used up.
        if weight is None:
            break
        first = without_weight(first, weight)
        second = without_weight(second, weight)
    return tuple(result)


def issue_packing(pair, party):
    """Return the packing for an issue with the two costs."""
    if_true, if_false = pair
    letter, required, opposite = "1", if_true, if_false
    if party == "respondent":
        letter, required, opposite = "0", if_false, if_true
    if required == 0 and opposite != 0:
        return ((letter, opposite),)
    return ()


def packing_within(cause, costs, party):
    """Return the packing for the party, where at least one of the costs of each issue is 0."""
    if is_issue(cause):
        return issue_packing(costs[0], party)
    first_costs, second_costs = split_row(cause, costs)
    first = packing_within(cause[1], first_costs, party)
    second = packing_within(cause[2], second_costs, second_party(cause, party))
    in_first = tuple([(as_first(cause, assignment), weight) for assignment, weight in first])
    in_second = tuple([(as_second(cause, assignment), weight) for assignment, weight in second])
    if needs_both(cause, party):
        return merged(in_first, in_second)
    return in_first + in_second


def packing_for(cause, costs, party):
    """Return the packing for the party; raise TwoWays if neither cost of some issue is 0."""
    for number, pair in enumerate(costs):
        if 0 not in pair:
            raise TwoWays(number)
    return packing_within(cause, costs, party)


def load_of(packing, issue, letter):
    """Return the sum of the weights of the members that require the finding of the issue."""
    return total_cost([weight for assignment, weight in packing if assignment[issue] == letter])


def respects_capacities(costs, packing):
    """Return whether the packing respects the capacities for the costs."""
    for issue, (if_true, if_false) in enumerate(costs):
        # The capacity of a finding is the cost of the opposite one.
        if is_greater_cost(load_of(packing, issue, "1"), if_false):
            return False
        if is_greater_cost(load_of(packing, issue, "0"), if_true):
            return False
    return True


def check_certificate(cause, costs, party, packing, assignment):
    """Return whether the packing and the assignment are a certificate for the party."""
    if not all([winner_by(cause, member) == party for member, _ in packing]):
        return False
    if not respects_capacities(costs, packing):
        return False
    if winner_by(cause, assignment) != opponent_of(party):
        return False
    return total_weight(packing) == assignment_cost(costs, assignment)
