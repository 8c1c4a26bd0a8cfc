"""Interest on amounts."""

# The days of a year times ten thousand, because rates are in ten thousandths a year.
YEAR = 3650000


def interest_on(amount, rate, days):
    """Return the interest on the amount for so many days."""
    return amount * rate * days // YEAR


def days_until(amount, rate, target):
    """Return the least number of days for which the interest is at least the target, or None."""
    if target == 0:
        return 0
    daily = amount * rate
    if daily == 0:
        return None
    return (target * YEAR + daily - 1) // daily
