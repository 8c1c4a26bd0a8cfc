"""Stays and the days that they contain."""


def is_stayed(stays, day):
    """Return whether at least one of the stays contains the day."""
    return any([first <= day <= last for first, last in stays])


def normal_stays(stays):
    """Return the normal form of the stays."""
    merged = []
    for first, last in sorted(stays):
        if last < first:
            continue
        # A stay that begins on the day after another one leaves no day between them.
        if merged and first <= merged[-1][1] + 1:
            merged[-1] = (merged[-1][0], max(merged[-1][1], last))
        else:
            merged.append((first, last))
    return tuple(merged)


def count_stayed_days(stays, first, last):
    """Return the number of stayed days greater than first and at most last."""
    many = 0
    # In the normal form no day is contained twice.
    for begin, end in normal_stays(stays):
        many += max(0, min(end, last) - max(begin - 1, first))
    return many
