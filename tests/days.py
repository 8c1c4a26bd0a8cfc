"""Days as the document defines them, listed one by one, for comparison."""

METHOD_PLACES = {"post": 4, "notice": 5}


def business_days(calendar, limit):
    """Return the business days from day 0 on that are less than the limit."""
    week, closed = calendar
    days = []
    for start in range(0, limit, 7):
        for index, letter in enumerate(week):
            if letter == "1":
                days.append(start + index)
    return [day for day in days if day < limit and day not in set(closed)]


def stayed_days(stays):
    """Return the set of the stayed days."""
    days = set()
    for first, last in stays:
        days.update(range(first, last + 1))
    return days


def term_end_by_definition(calendar, stays, kind, begin, days):
    """Return the end of a term, the least day that satisfies what the document says of it."""
    limit = begin + 60
    while True:
        limit = limit * 2
        stayed = stayed_days(stays)
        business = [day for day in business_days(calendar, limit) if day not in stayed]
        counting = business
        if kind == "calendar":
            counting = [day for day in range(limit) if day not in stayed]
        for end in business:
            if end > begin and len([day for day in counting if begin < day <= end]) >= days:
                return end


def effect_by_definition(rules, attempt):
    """Return the day on which an attempt takes effect."""
    day, method, _ = attempt
    if method != "hand":
        day += rules[METHOD_PLACES[method]]
    return min(d for d in business_days(rules[:2], day + 200) if d >= day)


def service_by_definition(rules, attempts):
    """Return the service day or None."""
    effects = [effect_by_definition(rules, one) for one in attempts if not one[2]]
    return min(effects) if effects else None


def own_by_definition(rules, kind, days, clock):
    """Return the day with which an own period ends."""
    judgment_day, attempts, stays, _ = clock
    served = service_by_definition(rules, attempts)
    if served is None:
        return judgment_day + rules[3]
    return term_end_by_definition(rules[:2], stays, kind, served, days)


def period_by_definition(rules, kind, days, clock):
    """Return the day with which a period ends."""
    ends = [own_by_definition(rules, kind, days, clock)]
    if clock[3] is not None:
        ends.append(term_end_by_definition(rules[:2], clock[2], "calendar", clock[3], rules[2]))
    return max(ends)
