"""Enforcement of a claim against security: the steps that change its account."""

MOST_SECURITY = 1000000


def rejected(reason, account):
    """Return what a step tells that is rejected for the reason."""
    return reason, 0, account


def deposit(account, amount):
    """Return what a deposit of the amount tells."""
    enforced, security = account
    if security + amount > MOST_SECURITY:
        return rejected("limit", account)
    return None, amount, (enforced, security + amount)


def enforce(account, status, due):
    """Return what the enforcement of what is due tells."""
    enforced, security = account
    winner, ever_judged, final = status
    if winner != "claimant":
        return rejected("not won", account)
    if not ever_judged:
        return rejected("never judged", account)
    if enforced != 0:
        return rejected("already enforced", account)
    if not final and security < due:
        return rejected("security", account)
    return None, due, (due, security)


def restitute(account, status):
    """Return what a restitution of the enforced amount tells."""
    enforced, security = account
    if status[0] != "respondent":
        return rejected("not won", account)
    if enforced == 0:
        return rejected("nothing enforced", account)
    return None, enforced, (0, max(0, security - enforced))


def release(account, status):
    """Return what the release of the security tells."""
    enforced, security = account
    winner, _, final = status
    if security == 0:
        return rejected("no security", account)
    if enforced != 0 and not (winner == "claimant" and final):
        return rejected("required", account)
    return None, security, (enforced, 0)


def enforcement_step(account, status, step):
    """Return the reason of the rejection or None, the amount transferred, the account behind."""
    word = step[0]
    if word == "deposit":
        return deposit(account, step[1])
    if word == "enforce":
        return enforce(account, status, step[1])
    if word == "restitute":
        return restitute(account, status)
    return release(account, status)
