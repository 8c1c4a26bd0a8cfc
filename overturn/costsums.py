"""Sums, differences and comparisons of costs, which may be infinite."""


def cost_sum(first, second):
    """Return the sum of two costs."""
    if first is None or second is None:
        return None
    return first + second


def total_cost(costs):
    """Return the sum of the costs of a list, 0 if it is empty."""
    if None in costs:
        return None
    return sum(costs)


def cost_left(cost, taken):
    """Return the cost minus an integer that is not greater than it."""
    if cost is None:
        return None
    return cost - taken


def is_greater_cost(first, second):
    """Return whether the first cost is greater than the second one."""
    if second is None:
        return False
    return first is None or first > second


def smaller_cost(first, second):
    """Return the smaller one of two costs."""
    if is_greater_cost(first, second):
        return second
    return first


def least_of(costs):
    """Return the least one of the costs of a list, infinite if it is empty."""
    return min([cost for cost in costs if cost is not None], default=None)
