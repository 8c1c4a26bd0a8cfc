"""Cases as the document defines them, taken apart by the names of their parts, for comparison."""

from itertools import product

from days import period_by_definition
from overturn.review import review_path
from rooms import PLACES, other_party
from trees import INFINITE, assignment_number, is_true, issue_total, is_win, number_of

BOTH = ("claimant", "respondent")


def leaves_of(cause, party="claimant"):
    """Return (of_law, majority, party) for each issue."""
    if cause[0] == "issue":
        return [(cause[2], cause[3], party)]
    second = other_party(party) if cause[0] == "unless" else party
    return leaves_of(cause[1], party) + leaves_of(cause[2], second)


class Model:
    """A case under a configuration."""

    def __init__(self, config, case):
        self.rules, _, self.rate, self.courts, self.causes, _ = config
        for name, part in zip(PLACES, case):
            setattr(self, name, part)
        self.is_judged = self.stage[0] == "judged"
        self.pairs = [(c, i) for c, claim in enumerate(self.claims) for i in range(len(claim[3]))]
        self.next = self.level + 1 if self.level + 1 < len(self.chain) else None

    def element(self, pair):
        return dict(zip(("finding", "barred", "binding", "default"), self.claims[pair[0]][3][pair[1]]))

    def leaf(self, pair):
        return leaves_of(self.causes[self.claims[pair[0]][0]])[pair[1]]

    def findings(self, claim):
        return "".join(element[0] for element in self.claims[claim][3])

    def winner(self, claim):
        """Return the winner however the undetermined issues were decided, or None."""
        cause, findings = self.causes[self.claims[claim][0]], self.findings(claim)
        choices = product(*("01" if letter == "?" else letter for letter in findings))
        values = {is_true(cause, bits) for bits in choices}
        if len(values) > 1:
            return None
        return "claimant" if True in values else "respondent"

    def lost(self, party):
        return [c for c in range(len(self.claims)) if self.winner(c) == other_party(party)]

    def favours(self, pair):
        finding, party = self.element(pair)["finding"], self.leaf(pair)[2]
        return {"?": None, "1": party, "0": other_party(party)}[finding]

    def is_reviewed(self, pair, level):
        _, _, _, facts, least, *_ = self.courts[self.chain[level]]
        return self.claims[pair[0]][1] >= least and (facts or self.leaf(pair)[0])

    def adverse(self, party):
        return tuple(
            pair for pair in self.pairs
            if pair[0] in self.lost(party) and self.favours(pair) == other_party(party)
            and not self.element(pair)["barred"]
        )

    def nameable(self, party):
        if self.next is None:
            return ()
        return tuple(pair for pair in self.adverse(party) if self.is_reviewed(pair, self.next))

    # Soundness, row by row of the table of point 203. A row is looked at only behind the earlier ones.

    def flaw(self):
        for reason in (
            "parties", "chain", "level", "claims", "undetermined", "binding", "default", "remitted",
            "judgment", "named", "first appeal", "ever judged",
        ):
            if getattr(self, "has_flaw_" + reason.replace(" ", "_"))():
                return reason
        return None

    def has_flaw_parties(self):
        return len(set(self.parties)) == 1

    def has_flaw_chain(self):
        chains = []
        for number in range(len(self.courts)):
            chain = [number]
            while self.courts[chain[-1]][0] is not None:
                chain.append(self.courts[chain[-1]][0])
            chains.append(tuple(chain))
        return self.chain not in chains

    def has_flaw_level(self):
        return self.level not in range(len(self.chain))

    def has_flaw_claims(self):
        for cause, _, _, issues in self.claims:
            if cause not in range(len(self.causes)) or issue_total(self.causes[cause]) != len(issues):
                return True
        return False

    def has_flaw_undetermined(self):
        plain = {"finding": "?", "barred": False, "binding": None, "default": False}
        told = [self.element(pair) for pair in self.pairs]
        return any(element["finding"] == "?" and element != plain for element in told)

    def has_flaw_binding(self):
        for pair in self.pairs:
            element = self.element(pair)
            if element["binding"] is not None:
                level, finding = element["binding"]
                if self.leaf(pair)[0] is False or level not in range(len(self.chain)):
                    return True
                if level > self.level and element["finding"] != str(int(finding)):
                    return True
        return False

    def has_flaw_default(self):
        for pair in self.pairs:
            element = self.element(pair)
            if element["default"]:
                if element["binding"] is not None:
                    return True
                wrong = [not self.is_judged, self.favours(pair) == "respondent", element["barred"]]
                if self.level == 0 and any(wrong):
                    return True
        return False

    def has_flaw_remitted(self):
        if self.is_judged:
            return False
        remitted = self.stage[1]
        if self.level == 0 and remitted != ():
            return True
        if list(remitted) != sorted(set(remitted)):
            return True
        for pair in remitted:
            if pair not in self.pairs or not self.is_reviewed(pair, self.level):
                return True
            if self.element(pair)["finding"] == "?" or self.element(pair)["barred"]:
                return True
        return False

    def has_flaw_judgment(self):
        undecided = [claim for claim in range(len(self.claims)) if self.winner(claim) is None]
        if self.is_judged:
            return undecided != []
        return self.stage[1] == () and undecided == []

    def has_flaw_named(self):
        if not self.is_judged:
            return False
        _, _, attempts, named, _ = self.stage
        for party, pairs in zip(BOTH, named):
            if pairs is not None and len(set(pairs)) != len(pairs):
                return True
            if any(pair not in self.nameable(party) for pair in pairs or ()):
                return True
        return self.next is None and (named != (None, None) or any(attempts))

    def has_flaw_first_appeal(self):
        if not self.is_judged:
            return False
        return any(self.stage[3]) is (self.stage[4] is None)

    def has_flaw_ever_judged(self):
        return self.ever_judged is False and (self.is_judged or self.level > 0)

    # Standing, points 204, 205 and 206.

    def periods(self):
        if not self.is_judged:
            return None
        _, day, attempts, _, first_appeal = self.stage
        if self.next is None:
            return ((day + self.rules[3],) * 2,) * 2
        *_, days, business_days, _ = self.courts[self.chain[self.next]]
        kind = "business" if business_days else "calendar"
        ends = []
        for own in attempts:
            clock = (day, own, self.stays, first_appeal)
            alone = (day, own, self.stays, None)
            ends.append(tuple(
                period_by_definition(self.rules, kind, days, one) for one in (alone, clock)
            ))
        return tuple(ends)

    def named(self, party):
        return self.stage[3][BOTH.index(party)]

    def in_time(self, day, party):
        return day <= self.periods()[BOTH.index(party)][1]

    def may_appeal(self, day, party):
        return (
            self.is_judged and self.next is not None and self.named(party) is None
            and self.lost(party) != [] and self.in_time(day, party)
        )

    def may_still_appeal(self, day, party):
        if self.may_appeal(day, party):
            return True
        opponent = other_party(party)
        return (
            self.is_judged and self.next is not None and self.named(party) is None
            and self.lost(party) != [] and self.stage[4] is None
            and self.may_appeal(day, opponent) and self.nameable(opponent) != ()
        )

    def is_done(self, day, party):
        return self.is_judged and (
            self.named(party) is not None or self.lost(party) == []
            or not self.in_time(day, party) or self.nameable(party) == ()
        )

    def may_be_opposed(self, day):
        return (
            self.is_judged and self.level == 0 and self.has_default()
            and self.named("respondent") is None and self.in_time(day, "respondent")
        )

    def may_still_be_opposed(self, day):
        if self.may_be_opposed(day):
            return True
        return (
            self.is_judged and self.level == 0 and self.has_default()
            and self.named("respondent") is None and self.stage[4] is None
            and self.may_appeal(day, "claimant") and self.nameable("claimant") != ()
        )

    def has_default(self):
        return any(self.element(pair)["default"] for pair in self.pairs)

    # Costs, points 210 and 211.

    def votes_on_path(self, pair, level, top):
        of_law, majority, _ = self.leaf(pair)
        element = self.element(pair)
        matter = (of_law, majority, self.claims[pair[0]][1], element["binding"])
        _, for_true, for_false = review_path(self.courts, self.chain, matter, level, top)
        return for_true if element["finding"] == "0" else for_false

    def reversal(self, day, pair, top):
        """Return the cost of finding a decided issue otherwise."""
        element = self.element(pair)
        if element["default"] and self.may_still_be_opposed(day):
            return 0
        if element["barred"]:
            return None
        above = self.votes_on_path(pair, self.level + 1, top)
        if not self.is_judged:
            if pair in self.stage[1]:
                return self.votes_on_path(pair, self.level, top)
            return above
        hurt = other_party(self.favours(pair))
        if self.named(hurt) is not None:
            return above if pair in self.named(hurt) else None
        return above if self.may_still_appeal(day, hurt) else None

    def costs(self, day, claim, up_to):
        top = max(len(self.chain) - 1 if up_to is None else up_to, self.level)
        costs = []
        for issue, finding in enumerate(self.findings(claim)):
            cost = 0 if finding == "?" else self.reversal(day, (claim, issue), top)
            costs.append({"1": (0, cost), "0": (cost, 0), "?": (0, 0)}[finding])
        return tuple(costs)

    def least(self, costs, claim, party):
        """Return the least cost for the party over all assignments, as a number."""
        cause = self.causes[self.claims[claim][0]]
        found = INFINITE
        for row in product("?01", repeat=len(costs)):
            assignment = "".join(row)
            cost = assignment_number(costs, assignment)
            if cost < found and is_win(cause, assignment, party):
                found = cost
        return found


def is_no_less(first, second):
    """Return whether the first cost is at least the second one."""
    return number_of(first) >= number_of(second)
