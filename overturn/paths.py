"""Reversal paths: filings that win a claim with exactly as many votes as it takes."""

from overturn.cases import claim_winner, findings_of, issue_at, matter_of, nameable_issues
from overturn.costsums import is_greater_cost
from overturn.errors import NotReversible
from overturn.filings import contrary_votes, processed
from overturn.parties import opponent_of
from overturn.records import (
    CLAIMS, LEVEL, NUMBER, cause_of, court_at, finding_at, is_judged, named_by, remitted_in,
)
from overturn.relevance import relevant_issues
from overturn.reversals import reversal_cost, votes_from
from overturn.review import bench_for, votes_at, votes_of
from overturn.standing import is_done, may_appeal, may_be_opposed, may_still_be_opposed


def is_reversed_by(assignment, finding, issue):
    """Return whether the assignment requires the opposite of the decided finding on the issue."""
    return finding != "?" and assignment[issue] not in ("?", finding)


def is_reversed_here(config, case, pair, claim, required, up_to):
    """Return whether the court at the level of the case is to reverse the remitted issue."""
    finding = finding_at(case, pair)
    if pair[0] != claim or not is_reversed_by(required, finding, pair[1]):
        return False
    level = case[LEVEL]
    matter = matter_of(config, case, pair)
    needed = votes_at(court_at(config, case, level), matter, level, finding == "0")
    if needed is None:
        return False
    return not is_greater_cost(needed, votes_from(config, case, pair, level + 1, up_to))


def remitted_ruling(config, case, claim, required, up_to):
    """Return the ruling on the first remitted issue."""
    pair = remitted_in(case)[0]
    level = case[LEVEL]
    court = court_at(config, case, level)
    matter = matter_of(config, case, pair)
    present = finding_at(case, pair) == "1"
    if is_reversed_here(config, case, pair, claim, required, up_to):
        many = votes_at(court, matter, level, not present)
        votes = votes_of(bench_for(court, matter, level, not present), not present, many)
    else:
        bench = bench_for(court, matter, level, present)
        votes = votes_of(bench, present, bench)
    return ("ruling", case[NUMBER]) + pair + (votes, ())


def first_relevant(config, case):
    """Return the first issue of the case that is undetermined and relevant."""
    for claim in range(len(case[CLAIMS])):
        relevant = relevant_issues(cause_of(config, case, claim), findings_of(case, claim))
        if relevant:
            return claim, relevant[0]
    return None


def free_ruling(config, case, party):
    """Return the ruling for the party on the first relevant issue; nothing is remitted."""
    pair = first_relevant(config, case)
    finding = issue_at(config, case, pair)[3] == party
    bench = court_at(config, case, 0)[1]
    return ("ruling", case[NUMBER]) + pair + (votes_of(bench, finding, bench), ())


def first_appeal_of(config, case, party):
    """Return the appeal of the party that names the first issue that it can name, and no other."""
    return "appeal", case[NUMBER], party, nameable_issues(config, case, party)[:1]


def own_appeal(case, claim, party, required):
    """Return the appeal of the party that names what has to be reversed."""
    findings = findings_of(case, claim)
    issues = [
        issue for issue, finding in enumerate(findings) if is_reversed_by(required, finding, issue)
    ]
    return "appeal", case[NUMBER], party, tuple([(claim, issue) for issue in issues])


def filing_behind_judgment(config, case, day, claim, party, required):
    """Return the next filing for the party in a judged case."""
    number, opponent = case[NUMBER], opponent_of(party)
    if party == "respondent" and may_be_opposed(config, case, day):
        return "oppose", number
    if party == "respondent" and may_still_be_opposed(config, case, day):
        return first_appeal_of(config, case, opponent)
    if named_by(case, party) is not None:
        if is_done(config, case, day, opponent):
            return "hearing", number
        return "waive", number, opponent
    if may_appeal(config, case, day, party):
        return own_appeal(case, claim, party, required)
    return first_appeal_of(config, case, opponent)


def filing_towards(config, case, day, claim, party, required, up_to):
    """Return the next filing for a party that has not won, with its required findings."""
    if is_judged(case):
        return filing_behind_judgment(config, case, day, claim, party, required)
    if remitted_in(case):
        return remitted_ruling(config, case, claim, required, up_to)
    return free_ruling(config, case, party)


def next_filing(config, case, day, claim, party, *, up_to=None):
    """Return the next filing for the party, or None if there is none."""
    if claim_winner(config, case, claim) == party:
        return None
    cost, required = reversal_cost(config, case, day, claim, party, up_to=up_to)
    if cost is None:
        return None
    return filing_towards(config, case, day, claim, party, required, up_to)


def reversal_path(config, case, day, claim, party, *, up_to=None):
    """Return the reversal path for the party; raise NotReversible if the cost is infinite."""
    cost, _ = reversal_cost(config, case, day, claim, party, up_to=up_to)
    if cost is None:
        raise NotReversible(f"claim {claim} cannot be won by the {party} any more")
    path = []
    filing = next_filing(config, case, day, claim, party, up_to=up_to)
    while filing is not None:
        path.append(filing)
        _, _, case = processed(config, case, day, filing)
        filing = next_filing(config, case, day, claim, party, up_to=up_to)
    return tuple(path)


def judge_path(config, case, claim, filings):
    """Return the reason and the contrary votes of each filing, the winner and the level behind them."""
    steps = []
    for day, filing in filings:
        votes = contrary_votes(config, case, day, filing, claim)
        reason, _, case = processed(config, case, day, filing)
        steps.append((reason, votes))
    return tuple(steps), claim_winner(config, case, claim), case[LEVEL]
