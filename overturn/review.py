"""Review of issues by the courts of a chain, and the votes that it takes."""

from overturn.costsums import least_of
from overturn.voting import finding_by, votes_needed


def reviews(court, of_law, amount):
    """Return whether the court reviews the issue."""
    reviews_facts, min_amount = court[3:5]
    return min_amount <= amount and (of_law or reviews_facts)


def bench_for(court, matter, level, finding):
    """Return the judges of the bench that can make the finding at the level, None if none can."""
    bench, full_bench = court[1:3]
    precedent = matter[3]
    if precedent is None:
        return bench
    bound_level, bound_finding = precedent
    if finding == bound_finding or level > bound_level:
        return bench
    if level == bound_level:
        return full_bench
    return None


def votes_at(court, matter, level, finding):
    """Return the votes needed for the finding at the level, None if the court is bound."""
    bench = bench_for(court, matter, level, finding)
    if bench is None:
        return None
    for_true, for_false = votes_needed(bench, matter[1])
    return for_true if finding else for_false


def needed_at(court, matter, level):
    """Return the votes needed for the finding True at the level, and for False."""
    return votes_at(court, matter, level, True), votes_at(court, matter, level, False)


def is_allowed(court, matter, level, votes):
    """Return whether the court is allowed to rule by the votes at the level."""
    finding = finding_by(matter[1], votes)
    return len(votes) == bench_for(court, matter, level, finding)


def path_levels(courts, chain, matter, level, top):
    """Return the levels of the review path."""
    of_law, _, amount, _ = matter
    levels = []
    while level < len(chain) and level <= top and reviews(courts[chain[level]], of_law, amount):
        levels.append(level)
        level += 1
    return tuple(levels)


def review_path(courts, chain, matter, level, top):
    """Return the levels of the review path and the votes on it for True and for False."""
    levels = path_levels(courts, chain, matter, level, top)
    needed = [needed_at(courts[chain[one]], matter, one) for one in levels]
    for_true = least_of([pair[0] for pair in needed])
    for_false = least_of([pair[1] for pair in needed])
    return levels, for_true, for_false


def votes_of(bench, finding, many):
    """Return votes of the bench: its first so many judges vote for the finding, the others do not."""
    letter, other = ("1", "0") if finding else ("0", "1")
    return letter * many + other * (bench - many)


def cheapest_rulings(courts, chain, matter, finding, level, top):
    """Return the votes of the cheapest rulings that reverse the finding, None if nothing can."""
    levels, for_true, for_false = review_path(courts, chain, matter, level, top)
    opposite = not finding
    needed = for_true if opposite else for_false
    if needed is None:
        return None
    rulings = []
    for one in levels:
        court = courts[chain[one]]
        if votes_at(court, matter, one, opposite) == needed:
            rulings.append(votes_of(bench_for(court, matter, one, opposite), opposite, needed))
            break
        bench = court[1]
        rulings.append(votes_of(bench, finding, bench))
    return tuple(rulings)
