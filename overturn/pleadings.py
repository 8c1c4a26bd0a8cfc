"""Pleadings: answers, admissions, default judgments and oppositions."""

from overturn.cases import adverse_issues, issue_at
from overturn.records import (
    ANSWERED, ATTEMPTS, LEVEL, STAGE, STAYS, all_issues, barred, deliberating, element_at,
    finding_at, has_issue, is_judged, letter_for, named_by, refused, rules_of, with_elements,
    with_parts,
)
from overturn.service import calendar_of, service_day
from overturn.standing import has_default, is_in_time
from overturn.terms import term_end


def answer_reason(case):
    """Return the reason for which an answer is rejected, or None."""
    if is_judged(case) or case[LEVEL] > 0:
        return "judged"
    if case[ANSWERED]:
        return "answered"
    return None


def answer(config, case, day, filing):
    """Return what an answer of the respondent tells."""
    reason = answer_reason(case)
    if reason is not None:
        return refused(reason, case)
    return None, (), with_parts(case, {ANSWERED: True})


def admit_reason(config, case, party, pair):
    """Return the reason for which an admission of the issue by the party is rejected, or None."""
    if not has_issue(case, pair):
        return "unknown"
    if is_judged(case):
        return "judged"
    if finding_at(case, pair) != "?":
        return "decided"
    if issue_at(config, case, pair)[3] == party:
        return "own issue"
    return None


def admit(config, case, day, filing):
    """Return what an admission tells."""
    _, _, party, claim, issue = filing
    pair = (claim, issue)
    reason = admit_reason(config, case, party, pair)
    if reason is not None:
        return refused(reason, case)
    _, _, binding, by_default = element_at(case, pair)
    return None, (), with_elements(case, {pair: ("1", True, binding, by_default)})


def has_answer_term_expired(config, case, day):
    """Return whether the complaint was served and the term for an answer ends before the day."""
    rules = rules_of(config)
    served = service_day(rules, case[ATTEMPTS])
    if served is None:
        return False
    answer_days = rules[6]
    return term_end(calendar_of(rules), case[STAYS], "calendar", served, answer_days) < day


def defaulted(config, case, pair):
    """Return the element of an undetermined issue once it is decided by default."""
    _, is_barred, binding, _ = element_at(case, pair)
    return letter_for(issue_at(config, case, pair)[3] == "claimant"), is_barred, binding, True


def default(config, case, day, filing):
    """Return what a default judgment tells."""
    reason = answer_reason(case)
    if reason is None and not has_answer_term_expired(config, case, day):
        reason = "not expired"
    if reason is not None:
        return refused(reason, case)
    undetermined = [pair for pair in all_issues(case) if finding_at(case, pair) == "?"]
    changed = {pair: defaulted(config, case, pair) for pair in undetermined}
    return None, (), with_elements(case, changed)


def oppose_reason(config, case, day):
    """Return the reason for which an opposition is rejected, or None."""
    if not is_judged(case) or case[LEVEL] > 0 or not has_default(case):
        return "no default"
    if named_by(case, "respondent") is not None:
        return "named"
    if not is_in_time(config, case, day, "respondent"):
        return "expired"
    return None


def with_unnamed_barred(config, case, party):
    """Return the judged case in which what is adverse to the party and not named by it is barred."""
    named = named_by(case, party) or ()
    unnamed = [pair for pair in adverse_issues(config, case, party) if pair not in named]
    return with_elements(case, {pair: barred(element_at(case, pair)) for pair in unnamed})


def is_bound_by_judgment(config, case, day, party):
    """Return whether the party has named something or waived, or can no longer do so."""
    return named_by(case, party) is not None or not is_in_time(config, case, day, party)


def undone(element):
    """Return the element of an issue once what was decided by default is undetermined."""
    _, is_barred, binding, by_default = element
    return ("?", is_barred, binding, False) if by_default else element


def oppose(config, case, day, filing):
    """Return what an opposition to a default judgment tells."""
    reason = oppose_reason(config, case, day)
    if reason is not None:
        return refused(reason, case)
    if is_bound_by_judgment(config, case, day, "claimant"):
        case = with_unnamed_barred(config, case, "claimant")
    case = with_elements(case, {pair: undone(element_at(case, pair)) for pair in all_issues(case)})
    return None, (), with_parts(case, {ANSWERED: True, STAGE: deliberating(())})
