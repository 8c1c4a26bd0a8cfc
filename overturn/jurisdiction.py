"""Jurisdiction: which rules apply, where none does, where several do."""

CATEGORIES = 4


def applies(rule, category, amount):
    """Return whether the rule applies to the category and the amount."""
    categories, low, high, _ = rule
    if category not in categories or amount < low:
        return False
    return high is None or amount <= high


def applicable_rules(jurisdiction, category, amount):
    """Return the numbers of the rules that apply, ascending."""
    return tuple([
        number for number, rule in enumerate(jurisdiction) if applies(rule, category, amount)
    ])


def competent_court(jurisdiction, category, amount):
    """Return the number of the court of the first rule that applies, or None."""
    for rule in jurisdiction:
        if applies(rule, category, amount):
            return rule[3]
    return None


def pairs_with(amounts):
    """Return the pairs of each category and each one of the amounts, in their order."""
    return [(category, amount) for category in range(CATEGORIES) for amount in sorted(amounts)]


def first_gap(jurisdiction):
    """Return the first pair of category and amount to which no rule applies, or None."""
    # A gap begins where amounts begin, or right behind the end of a rule.
    amounts = [0] + [high + 1 for _, _, high, _ in jurisdiction if high is not None]
    for category, amount in pairs_with(amounts):
        if not applicable_rules(jurisdiction, category, amount):
            return category, amount
    return None


def first_overlap(jurisdiction):
    """Return the first pair of category and amount to which two or more rules apply, or None."""
    # An overlap begins where one of its rules does.
    amounts = [low for _, low, _, _ in jurisdiction]
    for category, amount in pairs_with(amounts):
        if len(applicable_rules(jurisdiction, category, amount)) > 1:
            return category, amount
    return None
