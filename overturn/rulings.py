"""Rulings of benches on issues."""

from overturn.cases import findings_of, matter_of
from overturn.causes import VALUES
from overturn.records import (
    LEVEL, STAGE, TAGS, cause_of, court_at, deliberating, element_at, finding_at, has_issue,
    is_judged, letter_for, refused, remitted_in, with_elements, with_parts,
)
from overturn.relevance import relevant_issues
from overturn.review import bench_for
from overturn.voting import finding_by, votes_against


def ruling_level(case):
    """Return the level of the ruling court."""
    return case[LEVEL] if remitted_in(case) else 0


def ruling_finding(config, case, pair, votes):
    """Return the finding by the votes on the issue, True or False."""
    _, majority, _, _ = matter_of(config, case, pair)
    return finding_by(majority, votes)


def open_reason(config, case, pair):
    """Return the reason for which no bench can rule on the issue, or None."""
    if not has_issue(case, pair):
        return "unknown"
    if is_judged(case):
        return "judged"
    remitted = remitted_in(case)
    if remitted:
        return None if pair in remitted else "not remitted"
    if finding_at(case, pair) != "?":
        return "decided"
    claim, issue = pair
    if issue not in relevant_issues(cause_of(config, case, claim), findings_of(case, claim)):
        return "irrelevant"
    return None


def bench_reason(config, case, pair, votes):
    """Return the reason for which the bench cannot make the finding by the votes, or None."""
    level = ruling_level(case)
    finding = ruling_finding(config, case, pair, votes)
    bench = bench_for(court_at(config, case, level), matter_of(config, case, pair), level, finding)
    if bench is None:
        return "bound"
    if len(votes) != bench:
        return "bench"
    return None


def ruling_reason(config, case, filing):
    """Return the reason for which the ruling is rejected, or None."""
    _, _, claim, issue, votes, tags = filing
    pair = (claim, issue)
    reason = open_reason(config, case, pair)
    if reason is None:
        reason = bench_reason(config, case, pair, votes)
    if reason is None and not all([tag in case[TAGS] for tag in tags]):
        reason = "tag"
    return reason


def rule(config, case, day, filing):
    """Return what a ruling tells."""
    reason = ruling_reason(config, case, filing)
    if reason is not None:
        return refused(reason, case)
    _, _, claim, issue, votes, _ = filing
    pair = (claim, issue)
    finding = ruling_finding(config, case, pair, votes)
    _, is_barred, binding, by_default = element_at(case, pair)
    left = tuple([other for other in remitted_in(case) if other != pair])
    ruled = with_elements(case, {pair: (letter_for(finding), is_barred, binding, by_default)})
    return None, (1 if finding else 0,), with_parts(ruled, {STAGE: deliberating(left)})


def votes_against_standing(config, case, filing):
    """Return the votes of an accepted ruling against the finding that stands before it."""
    if ruling_reason(config, case, filing) is not None:
        return 0
    _, _, claim, issue, votes, _ = filing
    return votes_against(votes, VALUES[finding_at(case, (claim, issue))])
