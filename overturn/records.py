"""The parts of cases, claims and configurations, by their places in the tuples."""

# The places of the parts of a case; nothing asks for the category, which has the place 2.
NUMBER = 0
OPENED = 1
TAGS = 3
PARTIES = 4
CHAIN = 5
ANSWERED = 6
ATTEMPTS = 7
STAYS = 8
EVER_JUDGED = 9
FEES = 10
CLAIMS = 11
LEVEL = 12
STAGE = 13

DELIBERATING = "deliberating"
JUDGED = "judged"


def refused(reason, case):
    """Return what a filing tells that is rejected for the reason."""
    return reason, (), case


def with_parts(case, changed):
    """Return the case with other parts at the places of the dict."""
    return tuple([changed.get(place, part) for place, part in enumerate(case)])


def of_party(pair, party):
    """Return the element of the party in a pair for the parties."""
    claimants, respondents = pair
    return claimants if party == "claimant" else respondents


def with_party(pair, party, element):
    """Return the pair for the parties with another element for the party."""
    claimants, respondents = pair
    if party == "claimant":
        return element, respondents
    return claimants, element


def is_judged(case):
    """Return whether the case is judged, and no court deliberates."""
    return case[STAGE][0] == JUDGED


def remitted_in(case):
    """Return the issues that are remitted to the court that deliberates, perhaps none."""
    return () if is_judged(case) else case[STAGE][1]


def named_by(case, party):
    """Return what the party has named in a judged case, None if it has named nothing yet."""
    return of_party(case[STAGE][3], party)


def first_appeal_in(case):
    """Return the day of the first appeal in a judged case, or None."""
    return case[STAGE][4]


def deliberating(remitted):
    """Return the stage in which a court deliberates on what is remitted to it."""
    return DELIBERATING, remitted


def with_named(case, party, named, first_appeal):
    """Return the judged case in which the party has named the issues."""
    word, day, attempts, all_named, _ = case[STAGE]
    all_named = with_party(all_named, party, named)
    return with_parts(case, {STAGE: (word, day, attempts, all_named, first_appeal)})


def has_claim(case, claim):
    """Return whether the case has a claim with the number."""
    return claim < len(case[CLAIMS])


def has_issue(case, pair):
    """Return whether the pair of a claim and an issue is an issue of the case."""
    claim, issue = pair
    return has_claim(case, claim) and issue < len(case[CLAIMS][claim][3])


def element_at(case, pair):
    """Return the finding, the barring, the binding precedent and the default of the issue."""
    claim, issue = pair
    return case[CLAIMS][claim][3][issue]


def finding_at(case, pair):
    """Return the finding on the issue, a character."""
    return element_at(case, pair)[0]


def all_issues(case):
    """Return the pairs of claim and issue of the case, ascending."""
    return [
        (claim, issue)
        for claim, (_, _, _, issues) in enumerate(case[CLAIMS]) for issue in range(len(issues))
    ]


def with_elements(case, changed):
    """Return the case with other elements for the issues of the dict."""
    claims = []
    for claim, (cause, amount, account, issues) in enumerate(case[CLAIMS]):
        after = tuple([
            changed.get((claim, issue), element) for issue, element in enumerate(issues)
        ])
        claims.append((cause, amount, account, after))
    return with_parts(case, {CLAIMS: tuple(claims)})


def barred(element):
    """Return the element of an issue once the issue is barred."""
    finding, _, binding, by_default = element
    return finding, True, binding, by_default


def letter_for(finding):
    """Return the character of a finding, True or False."""
    return "1" if finding else "0"


def rules_of(config):
    """Return the time rules of the configuration."""
    return config[0]


def court_at(config, case, level):
    """Return the court at the level of the chain of the case."""
    return config[3][case[CHAIN][level]]


def next_level(case):
    """Return the level above that of the case, None at the highest level of its chain."""
    level = case[LEVEL] + 1
    return level if level < len(case[CHAIN]) else None


def cause_of(config, case, claim):
    """Return the cause of the claim."""
    return config[4][case[CLAIMS][claim][0]]
