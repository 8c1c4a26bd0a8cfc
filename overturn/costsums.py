"""Sums and comparisons of costs, which may be infinite."""


def cost_sum(first, second):
    """Return the sum of two costs."""
    if first is None or second is None:
        return None
    return first + second


def smaller_cost(first, second):
    """Return the smaller one of two costs."""
    if first is None:
        return second
    if second is None:
        return first
    return min(first, second)
