"""Reversal costs: the votes that it takes before a party has won a claim, and what stands firm."""

from overturn.cases import claim_winner, favoured_at, matter_of
from overturn.costs import least_cost
from overturn.packings import packing_for
from overturn.parties import BOTH, opponent_of
from overturn.records import (
    CHAIN, CLAIMS, LEVEL, cause_of, element_at, finding_at, is_judged, named_by, remitted_in,
)
from overturn.review import review_path
from overturn.standing import may_still_appeal, may_still_be_opposed


def top_level(case, up_to):
    """Return the top for the maximum level."""
    if up_to is None:
        return len(case[CHAIN]) - 1
    return max(up_to, case[LEVEL])


def votes_from(config, case, pair, level, up_to):
    """Return the votes on the path from the level for the opposite of the finding on the issue."""
    matter = matter_of(config, case, pair)
    top = top_level(case, up_to)
    _, for_true, for_false = review_path(config[3], case[CHAIN], matter, level, top)
    return for_false if finding_at(case, pair) == "1" else for_true


def appealing_parties(config, case, day):
    """Return the parties that may still appeal on the day."""
    return [party for party in BOTH if may_still_appeal(config, case, day, party)]


def opposite_cost(config, case, pair, appealing, up_to):
    """Return the cost of reversing the finding on a decided issue, but for an opposition."""
    if element_at(case, pair)[1]:
        return None
    level = case[LEVEL]
    if not is_judged(case):
        first = level if pair in remitted_in(case) else level + 1
        return votes_from(config, case, pair, first, up_to)
    party = opponent_of(favoured_at(config, case, pair))
    named = named_by(case, party)
    is_open = party in appealing if named is None else pair in named
    return votes_from(config, case, pair, level + 1, up_to) if is_open else None


def issue_cost(config, case, pair, appealing, opposable, up_to):
    """Return the costs of finding the issue true and of finding it false."""
    finding, _, _, by_default = element_at(case, pair)
    if finding == "?" or (by_default and opposable):
        return 0, 0
    cost = opposite_cost(config, case, pair, appealing, up_to)
    return (0, cost) if finding == "1" else (cost, 0)


def issue_costs(config, case, day, claim, *, up_to=None):
    """Return the costs of the issues of the claim."""
    appealing = appealing_parties(config, case, day)
    opposable = may_still_be_opposed(config, case, day)
    return tuple([
        issue_cost(config, case, (claim, issue), appealing, opposable, up_to)
        for issue in range(len(case[CLAIMS][claim][3]))
    ])


def reversal_cost(config, case, day, claim, party, *, up_to=None):
    """Return the reversal cost and the required findings, None if the cost is infinite."""
    costs = issue_costs(config, case, day, claim, up_to=up_to)
    return least_cost(cause_of(config, case, claim), costs, party)


def costs_by_level(config, case, day, claim, party):
    """Return the reversal costs for the maximum levels from 0 to the highest level of the chain."""
    return tuple([
        reversal_cost(config, case, day, claim, party, up_to=level)[0]
        for level in range(len(case[CHAIN]))
    ])


def is_final(config, case, day, claim):
    """Return whether nothing can change the outcome of the decided claim any more."""
    winner = claim_winner(config, case, claim)
    if winner is None:
        return False
    return reversal_cost(config, case, day, claim, opponent_of(winner))[0] is None


def current_grounds(config, case, day, claim):
    """Return the packing of the grounds that support the decision of the claim, () without one."""
    winner = claim_winner(config, case, claim)
    if winner is None:
        return ()
    costs = issue_costs(config, case, day, claim)
    return packing_for(cause_of(config, case, claim), costs, winner)
