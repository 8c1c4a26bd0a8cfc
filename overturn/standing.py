"""Standing: the periods of the parties, and which appeals and oppositions are open on a day."""

from overturn.cases import has_lost, nameable_issues
from overturn.parties import opponent_of
from overturn.periods import own_end, period_end
from overturn.records import (
    LEVEL, STAGE, STAYS, all_issues, court_at, element_at, first_appeal_in, is_judged, named_by,
    next_level, of_party, rules_of,
)


def appeal_term(config, case):
    """Return the kind and the days of the term for appeals; there is a next level."""
    _, _, _, _, _, days, business_days, _ = court_at(config, case, next_level(case))
    return "business" if business_days else "calendar", days


def period_of(config, case, party):
    """Return the days with which the own period and the period of a party end in a judged case."""
    rules = rules_of(config)
    _, day, attempts, _, first_appeal = case[STAGE]
    if next_level(case) is None:
        last = day + rules[3]
        return last, last
    kind, days = appeal_term(config, case)
    clock = (day, of_party(attempts, party), case[STAYS], first_appeal)
    return own_end(rules, kind, days, clock), period_end(rules, kind, days, clock)


def periods_of(config, case):
    """Return for both parties the ends of the own period and of the period, None if not judged."""
    if not is_judged(case):
        return None
    return period_of(config, case, "claimant"), period_of(config, case, "respondent")


def is_in_time(config, case, day, party):
    """Return whether the period of a party in a judged case has not expired on the day."""
    return day <= period_of(config, case, party)[1]


def may_name_later(config, case, party):
    """Return whether the party may appeal, but for its period."""
    if not is_judged(case) or next_level(case) is None:
        return False
    return named_by(case, party) is None and has_lost(config, case, party)


def may_appeal(config, case, day, party):
    """Return whether the party may appeal on the day."""
    return may_name_later(config, case, party) and is_in_time(config, case, day, party)


def may_reopen(config, case, day, party):
    """Return whether the party may file a first appeal on the day that gives the other one time."""
    if first_appeal_in(case) is not None or not may_appeal(config, case, day, party):
        return False
    return nameable_issues(config, case, party) != ()


def may_still_appeal(config, case, day, party):
    """Return whether the party may appeal on the day, or once its opponent has appealed."""
    if not may_name_later(config, case, party):
        return False
    if is_in_time(config, case, day, party):
        return True
    return may_reopen(config, case, day, opponent_of(party))


def is_done(config, case, day, party):
    """Return whether no appeal of the party has to be waited for on the day."""
    if not is_judged(case):
        return False
    if named_by(case, party) is not None or not has_lost(config, case, party):
        return True
    if not is_in_time(config, case, day, party):
        return True
    return nameable_issues(config, case, party) == ()


def has_default(case):
    """Return whether some issue of the case was decided by default."""
    return any([element_at(case, pair)[3] for pair in all_issues(case)])


def is_opposable(case):
    """Return whether the case may be opposed, but for the period of the respondent."""
    if not is_judged(case) or case[LEVEL] > 0:
        return False
    return has_default(case) and named_by(case, "respondent") is None


def may_be_opposed(config, case, day):
    """Return whether the case may be opposed on the day."""
    return is_opposable(case) and is_in_time(config, case, day, "respondent")


def may_still_be_opposed(config, case, day):
    """Return whether the case may be opposed on the day, or once the claimant has appealed."""
    if not is_opposable(case):
        return False
    if is_in_time(config, case, day, "respondent"):
        return True
    return may_reopen(config, case, day, "claimant")
