"""The hierarchy of courts."""


def appeal_chain(courts, court):
    """Return the chain of the court with the number."""
    chain = [court]
    superior = courts[court][0]
    while superior is not None:
        chain.append(superior)
        superior = courts[superior][0]
    return tuple(chain)


def subordinates(courts, court):
    """Return the numbers of the courts whose chain contains the court, ascending."""
    return tuple([
        number for number in range(len(courts)) if court in appeal_chain(courts, number)
    ])


def common_superior(courts, first, second):
    """Return the first court of the one chain that is also in the other one, or None."""
    other = appeal_chain(courts, second)
    for court in appeal_chain(courts, first):
        if court in other:
            return court
    return None
