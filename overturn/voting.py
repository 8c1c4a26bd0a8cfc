"""Votes of benches: findings, the votes that they need, agreeing votes."""


def votes_for_true(many, majority):
    """Return the least number of votes `1` out of so many votes by which the finding is True."""
    if majority == 0:
        return many // 2 + 1
    if majority == 1:
        # Two thirds, rounded up.
        return (2 * many + 2) // 3
    return many


def votes_needed(bench, majority):
    """Return the votes that the whole bench needs for the finding True, and for False."""
    for_true = votes_for_true(bench, majority)
    return for_true, bench - for_true + 1


def finding_by(majority, votes):
    """Return the finding by the votes, True or False."""
    return votes.count("1") >= votes_for_true(len(votes), majority)


def votes_against(votes, finding):
    """Return the number of the votes against the finding, 0 if there is none."""
    if finding is None:
        return 0
    return votes.count("0" if finding else "1")


def count_votes(majority, votes, previous):
    """Return the finding by the votes and the number of the votes against the previous finding."""
    return finding_by(majority, votes), votes_against(votes, previous)


def least_agreeing(bench, majority, many):
    """Return how many judges at least vote for each of so many issues that are found true."""
    return max(0, many * votes_for_true(bench, majority) - (many - 1) * bench)


def agreeing_votes(bench, majority, many):
    """Return so many votes for True that only the least agreeing number of judges is in all of them."""
    zeros = bench - votes_for_true(bench, majority)
    rulings = []
    for number in range(many):
        places = [(number * zeros + place) % bench for place in range(zeros)]
        rulings.append("".join(["0" if judge in places else "1" for judge in range(bench)]))
    return tuple(rulings)
