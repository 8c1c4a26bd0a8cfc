"""Filings in a case: which are rejected, what they change, and their contrary votes."""

from overturn.appeals import appeal, hear, waive
from overturn.judgments import with_judgment
from overturn.orders import stay, step
from overturn.pleadings import admit, answer, default, oppose
from overturn.rulings import rule, votes_against_standing
from overturn.servings import serve, undelivered


def handler_of(word):
    """Return the function that processes the filings with the word."""
    handlers = {
        "serve": serve,
        "undelivered": undelivered,
        "answer": answer,
        "admit": admit,
        "default": default,
        "oppose": oppose,
        "ruling": rule,
        "appeal": appeal,
        "waive": waive,
        "hearing": hear,
        "stay": stay,
        "deposit": step,
        "enforce": step,
        "restitute": step,
        "release": step,
    }
    return handlers[word]


def processed(config, case, day, filing):
    """Return the reason of the rejection or None, what the filing reports, the case behind it."""
    handle = handler_of(filing[0])
    reason, numbers, changed = handle(config, case, day, filing)
    if reason is None:
        changed = with_judgment(config, changed, day)
    return reason, numbers, changed


def contrary_votes(config, case, day, filing, claim):
    """Return the contrary votes of the filing on the claim."""
    if filing[0] != "ruling" or filing[2] != claim:
        return 0
    return votes_against_standing(config, case, filing)
