"""Grounds for a party."""

from overturn.formulas import as_first, as_second, is_issue, needs_both, second_party


def grounds_of(cause, party):
    """Return the grounds for the party, in their order."""
    if is_issue(cause):
        return ("1",) if party == "claimant" else ("0",)
    first = grounds_of(cause[1], party)
    second = grounds_of(cause[2], second_party(cause, party))
    if needs_both(cause, party):
        return tuple([ground + other for ground in first for other in second])
    in_first = [as_first(cause, ground) for ground in first]
    in_second = [as_second(cause, ground) for ground in second]
    return tuple(in_first + in_second)


def each_ground(cause, party):
    """Generate the grounds for the party, in their order."""
    for ground in grounds_of(cause, party):
        yield ground


def count_grounds(cause, party):
    """Return the number of the grounds for the party."""
    return len(grounds_of(cause, party))


def ground_at(cause, party, number):
    """Return the ground with the number, or None if there is none."""
    grounds = grounds_of(cause, party)
    if number < len(grounds):
        return grounds[number]
    return None


def ground_number(cause, party, assignment):
    """Return the number of the ground that is equal to the assignment, or None."""
    grounds = grounds_of(cause, party)
    if assignment in grounds:
        return grounds.index(assignment)
    return None


def supports(findings, assignment):
    """Return whether every issue that the assignment constrains is found as it requires."""
    return all([letter in ("?", found) for found, letter in zip(findings, assignment)])
