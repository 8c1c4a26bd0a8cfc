"""Costs of assignments and the least cost for a party."""

from overturn.costsums import cost_sum, is_greater_cost, total_cost
from overturn.formulas import as_first, as_second, is_issue, needs_both, second_party, split_row


def least_within(cause, costs, party):
    """Return the least cost for the party, and the least-cost assignment also if it is infinite."""
    if is_issue(cause):
        if_true, if_false = costs[0]
        return (if_true, "1") if party == "claimant" else (if_false, "0")
    first_costs, second_costs = split_row(cause, costs)
    first, first_assignment = least_within(cause[1], first_costs, party)
    second, second_assignment = least_within(cause[2], second_costs, second_party(cause, party))
    if needs_both(cause, party):
        return cost_sum(first, second), first_assignment + second_assignment
    if is_greater_cost(first, second):
        return second, as_second(cause, second_assignment)
    return first, as_first(cause, first_assignment)


def least_cost(cause, costs, party):
    """Return the least cost for the party and the least-cost assignment, None if it is infinite."""
    cost, assignment = least_within(cause, costs, party)
    if cost is None:
        return None, None
    return cost, assignment


def required_cost(pair, letter):
    """Return the cost of what the letter of an assignment requires of an issue with the costs."""
    if_true, if_false = pair
    if letter == "1":
        return if_true
    if letter == "0":
        return if_false
    return 0


def assignment_cost(costs, assignment):
    """Return the cost of the assignment."""
    return total_cost([required_cost(pair, letter) for pair, letter in zip(costs, assignment)])
