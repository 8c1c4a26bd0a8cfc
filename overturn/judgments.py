"""Judgments, which are given as soon as nothing is left to decide."""

from overturn.cases import is_all_decided
from overturn.records import EVER_JUDGED, JUDGED, STAGE, is_judged, remitted_in, with_parts


def with_judgment(config, case, day):
    """Return the case behind an accepted filing of the day, judged if judgment is to be given."""
    if is_judged(case) or remitted_in(case) or not is_all_decided(config, case):
        return case
    stage = (JUDGED, day, ((), ()), (None, None), None)
    return with_parts(case, {EVER_JUDGED: True, STAGE: stage})
