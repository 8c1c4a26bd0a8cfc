"""The two parties."""

BOTH = ("claimant", "respondent")


def opponent_of(party):
    """Return the opponent of the party."""
    if party == "claimant":
        return "respondent"
    return "claimant"
