"""Terms: which days count, when they end, when they begin at the latest."""

from overturn.calendars import is_business_day
from overturn.stays import is_stayed


def counts_toward(calendar, stays, kind, day):
    """Return whether the day counts toward a term of the kind."""
    if is_stayed(stays, day):
        return False
    return kind == "calendar" or is_business_day(calendar, day)


def may_end_on(calendar, stays, day):
    """Return whether a term of either kind may end on the day."""
    return is_business_day(calendar, day) and not is_stayed(stays, day)


def count_counting_days(calendar, stays, kind, first, last):
    """Return how many days greater than first and at most last count toward a term of the kind."""
    days = range(first + 1, last + 1)
    return len([day for day in days if counts_toward(calendar, stays, kind, day)])


def term_end(calendar, stays, kind, day, days):
    """Return the end of the term of so many days that begins after the day."""
    end = day
    counted = 0
    while True:
        end += 1
        if counts_toward(calendar, stays, kind, end):
            counted += 1
        if counted >= days and may_end_on(calendar, stays, end):
            return end


def latest_end(calendar, stays, day):
    """Return the greatest day from day 1 to the day on which a term may end, 0 if there is none."""
    # No term ends on day 0, because it begins before its end.
    while day > 0 and not may_end_on(calendar, stays, day):
        day -= 1
    return day


def latest_start(calendar, stays, kind, days, day):
    """Return the latest start of a term of so many days that has to end by the day, or None."""
    counted = 0
    for end in range(latest_end(calendar, stays, day), 0, -1):
        if counts_toward(calendar, stays, kind, end):
            counted += 1
        if counted >= days:
            return end - 1
    return None
