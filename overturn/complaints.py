"""Complaints, which open cases."""

from overturn.causes import issues_of
from overturn.courts import appeal_chain
from overturn.judgments import with_judgment
from overturn.jurisdiction import competent_court
from overturn.precedents import controlling_precedent
from overturn.records import deliberating, letter_for

MOST_CASES = 6


def complaint_reason(config, number, complaint):
    """Return the reason for which the complaint is rejected while there are so many cases, or None."""
    _, _, _, claimant, respondent, claims = complaint
    if number >= MOST_CASES:
        return "many"
    if claimant == respondent:
        return "same"
    if not all([cause < len(config[4]) for cause, _ in claims]):
        return "cause"
    return None


def first_element(binding):
    """Return the element of an issue in a new case, with its controlling precedent or None."""
    if binding is None:
        return "?", False, None, False
    return letter_for(binding[1]), False, binding, False


def new_claim(config, precedents, chain, tags, cause, amount):
    """Return a claim of a new case with the chain and the tags."""
    issues = []
    for issue, (_, of_law, _, _) in enumerate(issues_of(config[4][cause])):
        binding = None
        if of_law:
            binding = controlling_precedent(chain, precedents, cause, issue, tags)
        issues.append(first_element(binding))
    return cause, amount, (0, 0), tuple(issues)


def opened(config, precedents, number, day, complaint):
    """Return the reason of the rejection or None, what the complaint reports, the new case or None."""
    reason = complaint_reason(config, number, complaint)
    if reason is not None:
        return reason, (), None
    _, category, tags, claimant, respondent, pairs = complaint
    courts, jurisdiction = config[3], config[5]
    court = competent_court(jurisdiction, category, sum([amount for _, amount in pairs]))
    chain = appeal_chain(courts, court)
    claims = tuple([
        new_claim(config, precedents, chain, tags, cause, amount) for cause, amount in pairs
    ])
    fees = (courts[court][7], 0)
    case = (
        number, day, category, tags, (claimant, respondent), chain, False, (), (), False, fees,
        claims, 0, deliberating(()),
    )
    return None, (number, court), with_judgment(config, case, day)
