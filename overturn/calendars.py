"""Calendars and their business days."""


def is_business_day(calendar, day):
    """Return whether the day is a business day."""
    week, closed = calendar
    return week[day % 7] == "1" and day not in closed


def next_business_day(calendar, day):
    """Return the least business day that is not before the day."""
    while not is_business_day(calendar, day):
        day += 1
    return day


def previous_business_day(calendar, day):
    """Return the greatest business day that is not after the day, or None."""
    for candidate in range(day, -1, -1):
        if is_business_day(calendar, candidate):
            return candidate
    return None


def count_business_days(calendar, first, last):
    """Return the number of business days greater than first and at most last."""
    return len([day for day in range(first + 1, last + 1) if is_business_day(calendar, day)])


def business_day_after(calendar, day, many):
    """Return the many-th business day after the day, the day itself for 0."""
    for _ in range(many):
        day = next_business_day(calendar, day + 1)
    return day
