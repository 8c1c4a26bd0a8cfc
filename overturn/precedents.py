"""Precedents: which one controls an issue, and how they are recorded."""


def is_on_issue(precedent, chain, cause, issue):
    """Return whether the precedent is on the issue of the cause."""
    _, _, own_issue, own_cause, court, _, _ = precedent
    return own_cause == cause and own_issue == issue and court in chain


def missing_tags(precedent, tags):
    """Return the tags that the precedent requires and that are not among the tags."""
    return tuple([tag for tag in precedent[6] if tag not in tags])


def controlling_precedent(chain, precedents, cause, issue, tags):
    """Return the level and the finding of the controlling precedent, or None."""
    controlling = None
    for precedent in precedents:
        if not is_on_issue(precedent, chain, cause, issue) or missing_tags(precedent, tags):
            continue
        _, _, _, _, court, finding, _ = precedent
        level = chain.index(court)
        # Of two by the same court the later one controls.
        if controlling is None or level >= controlling[0]:
            controlling = (level, finding)
    return controlling


def distinguished(chain, precedents, cause, issue, tags):
    """Return the index and the missing tags of each precedent on the issue that does not apply."""
    found = []
    for index, precedent in enumerate(precedents):
        missing = missing_tags(precedent, tags)
        if missing and is_on_issue(precedent, chain, cause, issue):
            found.append((index, missing))
    return tuple(found)


def record_precedent(precedents, precedent):
    """Return the precedents behind the recording of another one."""
    place = precedent[:3]
    return tuple([other for other in precedents if other[:3] != place]) + (precedent,)
