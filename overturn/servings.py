"""Filings on service: attempts to serve a complaint or a judgment, and their return."""

from overturn.periods import with_return
from overturn.records import (
    ANSWERED, ATTEMPTS, LEVEL, STAGE, is_judged, named_by, next_level, of_party, refused, rules_of,
    with_parts, with_party,
)
from overturn.service import effect_day
from overturn.standing import period_of

MOST_ATTEMPTS = 4


def attempts_on(case, party):
    """Return the attempts to serve the complaint or the judgment, None if there is nothing to serve."""
    if is_judged(case):
        return of_party(case[STAGE][2], party)
    if case[LEVEL] > 0 or case[ANSWERED] or party != "respondent":
        return None
    return case[ATTEMPTS]


def with_attempts(case, party, attempts):
    """Return the case with other attempts to serve the same document on the party."""
    if not is_judged(case):
        return with_parts(case, {ATTEMPTS: attempts})
    word, day, served, named, first_appeal = case[STAGE]
    served = with_party(served, party, attempts)
    return with_parts(case, {STAGE: (word, day, served, named, first_appeal)})


def serve_reason(config, case, day, party):
    """Return the reason for which an attempt to serve the party is rejected, or None."""
    attempts = attempts_on(case, party)
    if attempts is None:
        return "nothing to serve"
    if is_judged(case):
        if next_level(case) is None:
            return "no superior"
        if named_by(case, party) is not None:
            return "named"
        if day > period_of(config, case, party)[0]:
            return "expired"
    if len(attempts) >= MOST_ATTEMPTS:
        return "many"
    return None


def serve(config, case, day, filing):
    """Return what an attempt to serve a party tells."""
    _, _, party, method = filing
    reason = serve_reason(config, case, day, party)
    if reason is not None:
        return refused(reason, case)
    attempt = (day, method, False)
    case = with_attempts(case, party, attempts_on(case, party) + (attempt,))
    return None, (effect_day(rules_of(config), attempt),), case


def return_reason(config, case, day, party, number):
    """Return the reason for which the return of the attempt with the number is rejected, or None."""
    attempts = attempts_on(case, party)
    if attempts is None:
        return "nothing to serve"
    if number >= len(attempts):
        return "unknown"
    _, method, is_returned = attempts[number]
    if method != "post":
        return "not postal"
    if is_returned:
        return "already"
    if effect_day(rules_of(config), attempts[number]) <= day:
        return "effect"
    return None


def undelivered(config, case, day, filing):
    """Return what the return of an attempt as undelivered tells."""
    _, _, party, number = filing
    reason = return_reason(config, case, day, party, number)
    if reason is not None:
        return refused(reason, case)
    return None, (), with_attempts(case, party, with_return(attempts_on(case, party), number))
