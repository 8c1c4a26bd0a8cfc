"""Appeals, waivers and hearings."""

from overturn.cases import has_lost, has_twice, nameable_issues
from overturn.parties import BOTH
from overturn.pleadings import with_unnamed_barred
from overturn.records import (
    CHAIN, FEES, LEVEL, STAGE, court_at, deliberating, first_appeal_in, is_judged, named_by,
    next_level, of_party, refused, with_named, with_parts, with_party,
)
from overturn.standing import is_done, is_in_time


def waive_reason(case, party):
    """Return the reason for which a waiver of the party is rejected, or None."""
    if not is_judged(case):
        return "not judged"
    if next_level(case) is None:
        return "no superior"
    if named_by(case, party) is not None:
        return "named"
    return None


def pairs_reason(config, case, party, pairs):
    """Return the reason for which the party cannot name the pairs, or None."""
    if not pairs:
        return "empty"
    if has_twice(pairs):
        return "twice"
    nameable = nameable_issues(config, case, party)
    if not all([pair in nameable for pair in pairs]):
        return "cannot"
    return None


def appeal_reason(config, case, day, party, pairs):
    """Return the reason for which an appeal of the party is rejected, or None."""
    reason = waive_reason(case, party)
    if reason is not None:
        return reason
    if not has_lost(config, case, party):
        return "not lost"
    if not is_in_time(config, case, day, party):
        return "expired"
    return pairs_reason(config, case, party, pairs)


def with_fee(case, party, fee):
    """Return the case in which the party has paid the fee, too."""
    fees = case[FEES]
    return with_parts(case, {FEES: with_party(fees, party, of_party(fees, party) + fee)})


def appeal(config, case, day, filing):
    """Return what an appeal tells."""
    _, _, party, pairs = filing
    reason = appeal_reason(config, case, day, party, pairs)
    if reason is not None:
        return refused(reason, case)
    first_appeal = first_appeal_in(case)
    if first_appeal is None:
        first_appeal = day
    level = next_level(case)
    fee = court_at(config, case, level)[7]
    appealed = with_fee(with_named(case, party, pairs, first_appeal), party, fee)
    return None, (case[CHAIN][level],), appealed


def waive(config, case, day, filing):
    """Return what a waiver of an appeal tells."""
    party = filing[2]
    reason = waive_reason(case, party)
    if reason is not None:
        return refused(reason, case)
    return None, (), with_named(case, party, (), first_appeal_in(case))


def hearing_reason(config, case, day):
    """Return the reason for which a hearing is rejected, or None."""
    if not is_judged(case):
        return "not judged"
    if first_appeal_in(case) is None:
        return "no appeal"
    if not all([is_done(config, case, day, party) for party in BOTH]):
        return "not expired"
    return None


def hear(config, case, day, filing):
    """Return what a hearing tells, by which the court at the next level takes the case."""
    reason = hearing_reason(config, case, day)
    if reason is not None:
        return refused(reason, case)
    remitted = []
    for party in BOTH:
        remitted.extend(named_by(case, party) or ())
    heard = case
    for party in BOTH:
        heard = with_unnamed_barred(config, heard, party)
    stage = deliberating(tuple(sorted(remitted)))
    return None, (len(remitted),), with_parts(heard, {LEVEL: next_level(case), STAGE: stage})
