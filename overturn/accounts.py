"""Accounts of persons: balances by transfers and the netting of debts."""


def balances_after(transfers):
    """Return the person and the balance of each one that pays or receives, ascending."""
    balances = {}
    for payer, payee, amount in transfers:
        balances[payer] = balances.get(payer, 0) - amount
        balances[payee] = balances.get(payee, 0) + amount
    persons = sorted([person for person in balances if person is not None])
    return tuple([(person, balances[person]) for person in persons])


def net_debts(debts):
    """Return the debts that netting leaves."""
    # For each pair of persons, the smaller one first, what the first one owes the second one.
    owed = {}
    for debtor, creditor, amount in debts:
        pair = (min(debtor, creditor), max(debtor, creditor))
        owed[pair] = owed.get(pair, 0) + (amount if debtor == pair[0] else -amount)
    netted = []
    for smaller, greater in sorted(owed):
        amount = owed[(smaller, greater)]
        if smaller == greater or amount == 0:
            continue
        if amount > 0:
            netted.append((smaller, greater, amount))
        else:
            netted.append((greater, smaller, -amount))
    return tuple(netted)
