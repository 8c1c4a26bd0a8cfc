"""Cases: findings, winners, adverse issues, what a party can name, and whether a case is sound."""

from overturn.causes import issues_of, winner_by
from overturn.courts import appeal_chain
from overturn.formulas import count_issues
from overturn.parties import BOTH, opponent_of
from overturn.records import (
    CHAIN, CLAIMS, EVER_JUDGED, LEVEL, PARTIES, STAGE, all_issues, cause_of, court_at,
    element_at, finding_at, first_appeal_in, has_issue, is_judged, letter_for, named_by, next_level,
    remitted_in,
)
from overturn.review import reviews


def findings_of(case, claim):
    """Return the findings of the claim."""
    return "".join([element[0] for element in case[CLAIMS][claim][3]])


def claim_winner(config, case, claim):
    """Return the party that has won the claim, or None."""
    return winner_by(cause_of(config, case, claim), findings_of(case, claim))


def has_lost(config, case, party):
    """Return whether the party has lost a claim of the case."""
    opponent = opponent_of(party)
    return any([claim_winner(config, case, claim) == opponent for claim in range(len(case[CLAIMS]))])


def is_all_decided(config, case):
    """Return whether every claim of the case is decided."""
    claims = range(len(case[CLAIMS]))
    return all([claim_winner(config, case, claim) is not None for claim in claims])


def issue_at(config, case, pair):
    """Return the name, whether it is of law, the majority and the party of the issue."""
    claim, issue = pair
    return issues_of(cause_of(config, case, claim))[issue]


def matter_of(config, case, pair):
    """Return the matter of the issue."""
    _, of_law, majority, _ = issue_at(config, case, pair)
    _, _, binding, _ = element_at(case, pair)
    return of_law, majority, case[CLAIMS][pair[0]][1], binding


def favoured_at(config, case, pair):
    """Return the party that the finding on the issue favours, or None."""
    party = issue_at(config, case, pair)[3]
    letter = finding_at(case, pair)
    if letter == "?":
        return None
    return party if letter == "1" else opponent_of(party)


def is_adverse(config, case, party, pair):
    """Return whether the issue is adverse to the party."""
    opponent = opponent_of(party)
    if claim_winner(config, case, pair[0]) != opponent:
        return False
    return favoured_at(config, case, pair) == opponent and not element_at(case, pair)[1]


def is_reviewed(config, case, pair, level):
    """Return whether the court at the level of the chain reviews the issue."""
    of_law, _, amount, _ = matter_of(config, case, pair)
    return reviews(court_at(config, case, level), of_law, amount)


def adverse_issues(config, case, party):
    """Return the issues that are adverse to the party, ascending."""
    return tuple([pair for pair in all_issues(case) if is_adverse(config, case, party, pair)])


def nameable_issues(config, case, party):
    """Return the issues that the party can name, ascending."""
    level = next_level(case)
    if level is None:
        return ()
    adverse = adverse_issues(config, case, party)
    return tuple([pair for pair in adverse if is_reviewed(config, case, pair, level)])


def has_no_such_chain(config, case):
    """Return whether the chain is not that of a court of the configuration."""
    courts = config[3]
    lowest = case[CHAIN][0]
    return lowest >= len(courts) or appeal_chain(courts, lowest) != case[CHAIN]


def is_no_such_claim(config, claim):
    """Return whether the claim has no cause, or not one element for each issue of its cause."""
    causes = config[4]
    number, _, _, issues = claim
    return number >= len(causes) or count_issues(causes[number]) != len(issues)


def is_wrongly_undetermined(element):
    """Return whether the issue is undetermined, but has what only a decided one has."""
    finding, barred, binding, by_default = element
    return finding == "?" and (barred or binding is not None or by_default)


def is_wrongly_bound(config, case, pair):
    """Return whether the issue has a binding precedent that it cannot have."""
    finding, _, binding, _ = element_at(case, pair)
    if binding is None:
        return False
    level, precedent = binding
    of_law = issue_at(config, case, pair)[1]
    if not of_law or level >= len(case[CHAIN]):
        return True
    return case[LEVEL] < level and finding != letter_for(precedent)


def is_wrongly_by_default(config, case, pair):
    """Return whether the issue was decided by default, but cannot have been."""
    _, barred, binding, by_default = element_at(case, pair)
    if not by_default:
        return False
    if binding is not None:
        return True
    if case[LEVEL] > 0:
        return False
    return not is_judged(case) or barred or favoured_at(config, case, pair) == "respondent"


def is_wrongly_remitted(config, case, pair):
    """Return whether the pair is remitted, but cannot be."""
    if not has_issue(case, pair):
        return True
    finding, barred, _, _ = element_at(case, pair)
    return finding == "?" or barred or not is_reviewed(config, case, pair, case[LEVEL])


def is_ascending(pairs):
    """Return whether each pair is greater than the one before it."""
    return all([first < second for first, second in zip(pairs, pairs[1:])])


def has_wrong_remitted(config, case):
    """Return whether what is remitted cannot be."""
    remitted = remitted_in(case)
    if remitted and case[LEVEL] == 0:
        return True
    if not is_ascending(remitted):
        return True
    return any([is_wrongly_remitted(config, case, pair) for pair in remitted])


def has_wrong_judgment(config, case):
    """Return whether the case is judged though it cannot be, or is not though it must be."""
    decided = is_all_decided(config, case)
    if is_judged(case):
        return not decided
    return decided and not remitted_in(case)


def has_twice(pairs):
    """Return whether a pair occurs twice."""
    return len({pair for pair in pairs}) < len(pairs)


def has_wrong_named(config, case):
    """Return whether a party of a judged case has named or was served what it cannot."""
    if not is_judged(case):
        return False
    attempts, named = case[STAGE][2:4]
    if next_level(case) is None and (named != (None, None) or attempts != ((), ())):
        return True
    for party in BOTH:
        pairs = named_by(case, party) or ()
        nameable = nameable_issues(config, case, party)
        if has_twice(pairs) or not all([pair in nameable for pair in pairs]):
            return True
    return False


def has_wrong_first_appeal(case):
    """Return whether there was a first appeal without an issue named, or the other way round."""
    if not is_judged(case):
        return False
    is_any_named = any([named_by(case, party) for party in BOTH])
    return is_any_named != (first_appeal_in(case) is not None)


def flaw(config, case):
    """Return the first reason for which the case is not sound, or None."""
    claimant, respondent = case[PARTIES]
    if claimant == respondent:
        return "parties"
    if has_no_such_chain(config, case):
        return "chain"
    if case[LEVEL] >= len(case[CHAIN]):
        return "level"
    if any([is_no_such_claim(config, claim) for claim in case[CLAIMS]]):
        return "claims"
    pairs = all_issues(case)
    if any([is_wrongly_undetermined(element_at(case, pair)) for pair in pairs]):
        return "undetermined"
    if any([is_wrongly_bound(config, case, pair) for pair in pairs]):
        return "binding"
    if any([is_wrongly_by_default(config, case, pair) for pair in pairs]):
        return "default"
    if has_wrong_remitted(config, case):
        return "remitted"
    if has_wrong_judgment(config, case):
        return "judgment"
    if has_wrong_named(config, case):
        return "named"
    if has_wrong_first_appeal(case):
        return "first appeal"
    if (is_judged(case) or case[LEVEL] > 0) and not case[EVER_JUDGED]:
        return "ever judged"
    return None
