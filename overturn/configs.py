"""Configurations and their errors."""

from overturn.errors import BadConfig
from overturn.jurisdiction import first_gap, first_overlap


def court_errors(courts):
    """Return the errors of the courts, in order."""
    errors = []
    for number, court in enumerate(courts):
        superior, bench, full_bench = court[:3]
        if superior is not None and superior >= number:
            errors.append(("superior", number))
        if full_bench < bench:
            errors.append(("bench", number))
    return errors


def rule_errors(courts, jurisdiction):
    """Return an error for each rule that names a court that does not exist."""
    return [
        ("court", number) for number, rule in enumerate(jurisdiction) if rule[3] >= len(courts)
    ]


def coverage_errors(jurisdiction):
    """Return the errors of the gap and of the overlap, as far as there are any."""
    pairs = (("gap", first_gap(jurisdiction)), ("overlap", first_overlap(jurisdiction)))
    return [(word, pair) for word, pair in pairs if pair is not None]


def config_errors(config):
    """Return the errors of the configuration."""
    _, _, _, courts, _, jurisdiction = config
    of_rules = rule_errors(courts, jurisdiction)
    # Gap and overlap are of interest only once every rule names a court that exists.
    if not of_rules:
        of_rules = coverage_errors(jurisdiction)
    return tuple(court_errors(courts) + of_rules)


def check_config(config):
    """Raise BadConfig if the configuration has errors."""
    errors = config_errors(config)
    if errors:
        raise BadConfig(errors)
