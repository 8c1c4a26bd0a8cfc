"""Appeal periods: when they end, and which events change their end."""

from overturn.service import calendar_of, effect_day, service_day
from overturn.terms import term_end


def own_end(rules, kind, days, clock):
    """Return the day with which the own period of the party ends."""
    judgment_day, attempts, stays, _ = clock
    served = service_day(rules, attempts)
    if served is None:
        long_stop = rules[3]
        return judgment_day + long_stop
    return term_end(calendar_of(rules), stays, kind, served, days)


def cross_end(rules, clock):
    """Return the day with which the cross-appeal term ends, or None if there is no such term."""
    _, _, stays, first_appeal = clock
    if first_appeal is None:
        return None
    cross_days = rules[2]
    return term_end(calendar_of(rules), stays, "calendar", first_appeal, cross_days)


def period_end(rules, kind, days, clock):
    """Return the day with which the period of the party ends."""
    own = own_end(rules, kind, days, clock)
    cross = cross_end(rules, clock)
    if cross is None:
        return own
    return max(own, cross)


def may_return(rules, attempts, day, number):
    """Return whether the attempt with the number may be returned as undelivered on the day."""
    if number >= len(attempts):
        return False
    _, method, undelivered = attempts[number]
    if method != "post" or undelivered:
        return False
    return effect_day(rules, attempts[number]) > day


def is_permitted(rules, kind, days, clock, day, event):
    """Return whether the event is permitted on the day."""
    if event[0] == "attempt":
        return day <= own_end(rules, kind, days, clock)
    if event[0] == "return":
        return may_return(rules, clock[1], day, event[1])
    return event[1] >= day


def with_return(attempts, number):
    """Return the attempts with the one with the number marked as undelivered."""
    day, method, _ = attempts[number]
    return attempts[:number] + ((day, method, True),) + attempts[number + 1:]


def clock_after(rules, kind, days, clock, day, event):
    """Return the clock behind the event on the day, an equal one if it is not permitted."""
    if not is_permitted(rules, kind, days, clock, day, event):
        return clock
    judgment_day, attempts, stays, first_appeal = clock
    if event[0] == "attempt":
        attempts = attempts + ((day, event[1], False),)
    elif event[0] == "return":
        attempts = with_return(attempts, event[1])
    else:
        stays = stays + (event[1:],)
    return judgment_day, attempts, stays, first_appeal


def changing_events(rules, kind, days, clock, day):
    """Return the one or two changing events on the day, or None if the period has expired."""
    end = period_end(rules, kind, days, clock)
    if day > end:
        return None
    stay = ("stay", end, end)
    # Terms do not end on a stayed day, but the long stop does.
    if service_day(rules, clock[1]) is not None or cross_end(rules, clock) == end:
        return (stay,)
    attempt = ("attempt", "hand")
    served = clock_after(rules, kind, days, clock, day, attempt)
    if period_end(rules, kind, days, served) != end:
        return (attempt,)
    return attempt, stay
