"""Shares: apportioning, legal costs and insolvent estates."""

from overturn.parties import opponent_of


def apportion(total, weights):
    """Return the shares of the total by the weights."""
    whole = sum(weights)
    if whole == 0:
        return (0,) * len(weights)
    shares = [total * weight // whole for weight in weights]
    left = total - sum(shares)
    # The greatest remainder comes first, of equal ones that with the smaller index.
    ranked = sorted([(-(total * weight % whole), index) for index, weight in enumerate(weights)])
    for _, index in ranked[:left]:
        shares[index] += 1
    return tuple(shares)


def loss_of(claims, party):
    """Return the sum of the amounts of the claims that the party has lost."""
    return sum([amount for amount, winner in claims if winner == opponent_of(party)])


def legal_costs(claims, claimant_paid, respondent_paid):
    """Return what the claimant and the respondent bear and what the claimant owes."""
    losses = (loss_of(claims, "claimant"), loss_of(claims, "respondent"))
    if losses == (0, 0):
        return claimant_paid, respondent_paid, 0
    claimant, respondent = apportion(claimant_paid + respondent_paid, losses)
    return claimant, respondent, claimant - claimant_paid


def distribute(estate, claims):
    """Return what each claim receives from the estate."""
    received = [0] * len(claims)
    rest = estate
    for rank in sorted({claim[0] for claim in claims}):
        places = [place for place, claim in enumerate(claims) if claim[0] == rank]
        amounts = [claims[place][1] for place in places]
        # If the rest covers the rank, its own sum is apportioned, so each claim receives its amount.
        given = min(rest, sum(amounts))
        for place, share in zip(places, apportion(given, amounts)):
            received[place] = share
        rest -= given
    return tuple(received)
