"""Service of documents: when attempts take effect and which of them is decisive."""

from overturn.calendars import next_business_day


def calendar_of(rules):
    """Return the calendar of time rules."""
    return rules[:2]


def effect_day(rules, attempt):
    """Return the day on which the attempt takes effect, whether or not it is undelivered."""
    day, method, _ = attempt
    post_days, notice_days = rules[4:6]
    delays = {"hand": 0, "post": post_days, "notice": notice_days}
    return next_business_day(calendar_of(rules), day + delays[method])


def service_day(rules, attempts):
    """Return the day on which the party is served by the attempts, or None."""
    effects = [effect_day(rules, attempt) for attempt in attempts if not attempt[2]]
    return min(effects, default=None)


def decisive_attempts(rules, attempts):
    """Return the numbers of the attempts without which the party is served later or not at all."""
    served = service_day(rules, attempts)
    decisive = []
    for number in range(len(attempts)):
        others = attempts[:number] + attempts[number + 1:]
        # Fewer attempts never serve the party earlier, so another day is a later one.
        if service_day(rules, others) != served:
            decisive.append(number)
    return tuple(decisive)
