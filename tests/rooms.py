"""Configurations and cases that are put together part by part."""

from overturn.reader import read_cause

# The three courts of point 3, the highest one first.
HIGH = (None, 5, 9, False, 50, 14, False, 10)
MIDDLE = (0, 3, 9, True, 0, 14, False, 5)
LOW = (1, 1, 1, True, 0, 14, False, 1)
COURTS = (HIGH, MIDDLE, LOW)
# Every day is a business day; a cross-appeal term of 7 days, a long stop of 30 days.
RULES = ("1111111", (), 7, 30, 3, 14, 10)
EVERYTHING = (0, 1, 2, 3)
PLACES = (
    "number", "day", "category", "tags", "parties", "chain", "answered", "attempts", "stays",
    "ever_judged", "fees", "claims", "level", "stage",
)


def court(base, **parts):
    """Return a court like another one, with other parts."""
    names = (
        "superior", "bench", "full_bench", "facts", "least", "days", "business_days", "fee",
    )
    return tuple(parts.pop(name, part) for name, part in zip(names, base)) + _nothing(parts)


def _nothing(parts):
    if parts:
        raise KeyError(parts)
    return ()


def config_of(*texts, rules=RULES, offices=1, rate=1000, courts=COURTS, jurisdiction=None):
    """Return a configuration with the causes of the texts, by default one for the lowest court."""
    causes = tuple(read_cause(text) for text in texts)
    jurisdiction = jurisdiction or ((EVERYTHING, 0, None, len(courts) - 1),)
    return rules, offices, rate, tuple(courts), causes, jurisdiction


def issues_as(findings, barred=(), bindings=None, by_default=()):
    """Return the elements of issues: the findings, and the numbers of those that are special."""
    bindings = bindings or {}
    return tuple(
        (finding, issue in barred, bindings.get(issue), issue in by_default)
        for issue, finding in enumerate(findings)
    )


def claim_as(findings, barred=(), bindings=None, by_default=(), cause=0, amount=100, account=(0, 0)):
    """Return a claim with such issues."""
    return cause, amount, account, issues_as(findings, barred, bindings, by_default)


def judged(day=0, attempts=((), ()), named=(None, None), first_appeal=None):
    """Return the stage of a judged case."""
    return "judged", day, attempts, named, first_appeal


def deliberating(*remitted):
    """Return the stage in which a court deliberates on the pairs."""
    return "deliberating", remitted


def case_as(*claims, **parts):
    """Return a case with the claims, by default one of day 0 that is judged at level 0."""
    told = {
        "number": 0,
        "day": 0,
        "category": 0,
        "tags": (),
        "parties": (1, 2),
        "chain": (2, 1, 0),
        "answered": True,
        "attempts": (),
        "stays": (),
        "ever_judged": True,
        "fees": (1, 0),
        "claims": claims,
        "level": 0,
        "stage": judged(),
    }
    for name, part in parts.items():
        if name not in told:
            raise KeyError(name)
        told[name] = part
    return tuple(told[name] for name in PLACES)


def changed(case, **parts):
    """Return the case with other parts."""
    return case_as(**{**dict(zip(PLACES, case)), **parts})


def other_party(party):
    return "respondent" if party == "claimant" else "claimant"
