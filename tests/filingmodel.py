"""Filings as the document defines them: the reasons one after another, and what changes, for comparison."""

from casemodel import BOTH, Model
from days import effect_by_definition, service_by_definition, term_end_by_definition
from overturn.reversals import is_final
from rooms import changed, deliberating, judged
from test_enforcement import step_by_table
from trees import relevant_by_definition

YEAR = 365 * 10000


def with_elements(model, case, elements):
    """Return the case with the elements of a dict, told by names."""
    claims = []
    for c, (cause, amount, account, issues) in enumerate(model.claims):
        rows = []
        for i, _ in enumerate(issues):
            told = elements.get((c, i), model.element((c, i)))
            rows.append((told["finding"], told["barred"], told["binding"], told["default"]))
        claims.append((cause, amount, account, tuple(rows)))
    return changed(case, claims=tuple(claims))


def found_by(majority, votes):
    """Return the finding by votes, "1" or "0"."""
    ones, zeros = votes.count("1"), votes.count("0")
    holds = {0: ones > zeros, 1: 3 * ones >= 2 * (ones + zeros), 2: zeros == 0}[majority]
    return "1" if holds else "0"


class Filing:
    """A filing on a day in a case; `outcome` is what the document says of it."""

    def __init__(self, config, case, day, filing):
        self.config, self.case, self.day = config, case, day
        self.word, _, *self.rest = filing
        self.model = Model(config, case)
        self.outcome = self.processed()

    def processed(self):
        model = self.model
        rows = {"deposit": "step", "enforce": "step", "restitute": "step", "release": "step"}
        method = rows.get(self.word, self.word)
        for reason, applies in getattr(self, "reasons_of_" + method)(*self.rest):
            # The later conditions may not even be told where an earlier one applies.
            if applies():
                return reason, (), self.case
        numbers, case = getattr(self, "behind_" + method)(*self.rest)
        model = Model(self.config, case)
        undecided = [c for c in range(len(model.claims)) if model.winner(c) is None]
        if not model.is_judged and model.stage[1] == () and not undecided:
            case = changed(case, ever_judged=True, stage=judged(self.day))
        return None, numbers, case

    # Service.

    def served(self, party):
        """Return the attempts at the document that can be served on the party, or None."""
        model = self.model
        if model.is_judged:
            return model.stage[2][BOTH.index(party)]
        if model.level == 0 and not model.answered and party == "respondent":
            return model.attempts
        return None

    def with_served(self, party, attempts):
        model = self.model
        if not model.is_judged:
            return changed(self.case, attempts=attempts)
        both = [attempts if one == party else self.served(one) for one in BOTH]
        return changed(self.case, stage=model.stage[:2] + (tuple(both),) + model.stage[3:])

    def reasons_of_serve(self, party, method):
        model = self.model
        return [
            ("nothing to serve", lambda: self.served(party) is None),
            ("no superior", lambda: model.is_judged and model.next is None),
            ("named", lambda: model.is_judged and model.named(party) is not None),
            ("expired", lambda: model.is_judged and self.day > model.periods()[BOTH.index(party)][0]),
            ("many", lambda: len(self.served(party)) >= 4),
        ]

    def behind_serve(self, party, method):
        attempt = (self.day, method, False)
        effect = effect_by_definition(self.model.rules, attempt)
        return (effect,), self.with_served(party, self.served(party) + (attempt,))

    def reasons_of_undelivered(self, party, number):
        return [
            ("nothing to serve", lambda: self.served(party) is None),
            ("unknown", lambda: number not in range(len(self.served(party)))),
            ("not postal", lambda: self.served(party)[number][1] != "post"),
            ("already", lambda: self.served(party)[number][2]),
            ("effect", lambda: effect_by_definition(self.model.rules, self.served(party)[number]) <= self.day),
        ]

    def behind_undelivered(self, party, number):
        attempts = list(self.served(party))
        attempts[number] = attempts[number][:2] + (True,)
        return (), self.with_served(party, tuple(attempts))

    # Pleadings.

    def reasons_of_answer(self):
        model = self.model
        return [
            ("judged", lambda: model.is_judged or model.level > 0),
            ("answered", lambda: model.answered),
        ]

    def behind_answer(self):
        return (), changed(self.case, answered=True)

    def reasons_of_admit(self, party, claim, issue):
        model, pair = self.model, (claim, issue)
        return [
            ("unknown", lambda: pair not in model.pairs),
            ("judged", lambda: model.is_judged),
            ("decided", lambda: model.element(pair)["finding"] != "?"),
            ("own issue", lambda: model.leaf(pair)[2] == party),
        ]

    def behind_admit(self, party, claim, issue):
        element = {**self.model.element((claim, issue)), "finding": "1", "barred": True}
        return (), with_elements(self.model, self.case, {(claim, issue): element})

    def has_term_ended(self):
        model = self.model
        start = service_by_definition(model.rules, model.attempts)
        if start is None:
            return False
        end = term_end_by_definition(model.rules[:2], model.stays, "calendar", start, model.rules[6])
        return end < self.day

    def reasons_of_default(self):
        return self.reasons_of_answer() + [("not expired", lambda: not self.has_term_ended())]

    def behind_default(self):
        model, elements = self.model, {}
        for pair in model.pairs:
            if model.element(pair)["finding"] == "?":
                finding = "1" if model.leaf(pair)[2] == "claimant" else "0"
                elements[pair] = {**model.element(pair), "finding": finding, "default": True}
        return (), with_elements(model, self.case, elements)

    def reasons_of_oppose(self):
        model = self.model
        return [
            ("no default", lambda: not (model.is_judged and model.level == 0 and model.has_default())),
            ("named", lambda: model.named("respondent") is not None),
            ("expired", lambda: not model.in_time(self.day, "respondent")),
        ]

    def unnamed(self, *parties):
        """Return the elements of what is adverse to the parties and was not named by them, barred."""
        model = self.model
        return {
            pair: {**model.element(pair), "barred": True}
            for party in parties for pair in model.adverse(party) if pair not in (model.named(party) or ())
        }

    def behind_oppose(self):
        model, elements = self.model, {}
        if model.named("claimant") is not None or not model.in_time(self.day, "claimant"):
            elements = self.unnamed("claimant")
        for pair in model.pairs:
            if model.element(pair)["default"]:
                elements[pair] = {"finding": "?", "barred": False, "binding": None, "default": False}
        case = with_elements(model, self.case, elements)
        return (), changed(case, answered=True, stage=deliberating())

    # Rulings.

    def court(self):
        """Return the level of the ruling court and its benches."""
        model = self.model
        level = model.level if model.stage[1] else 0
        return (level, *model.courts[model.chain[level]][1:3])

    def reasons_of_ruling(self, claim, issue, votes, tags):
        model, pair = self.model, (claim, issue)

        def remitted():
            return () if model.is_judged else model.stage[1]

        def relevant():
            return relevant_by_definition(model.causes[model.claims[claim][0]], model.findings(claim))

        def bound():
            """Return the level of the precedent from which the ruling departs, -1 if from none."""
            binding = model.element(pair)["binding"]
            finding = found_by(model.leaf(pair)[1], votes)
            return -1 if binding is None or finding == str(int(binding[1])) else binding[0]

        def bench():
            level, ordinary, full = self.court()
            return full if bound() == level else ordinary

        return [
            ("unknown", lambda: pair not in model.pairs),
            ("judged", lambda: model.is_judged),
            ("not remitted", lambda: remitted() and pair not in remitted()),
            ("decided", lambda: not remitted() and model.element(pair)["finding"] != "?"),
            ("irrelevant", lambda: not remitted() and issue not in relevant()),
            ("bound", lambda: bound() > self.court()[0]),
            ("bench", lambda: len(votes) != bench()),
            ("tag", lambda: not set(tags) <= set(model.tags)),
        ]

    def behind_ruling(self, claim, issue, votes, tags):
        model, pair = self.model, (claim, issue)
        finding = found_by(model.leaf(pair)[1], votes)
        case = with_elements(model, self.case, {pair: {**model.element(pair), "finding": finding}})
        left = [one for one in model.stage[1] if one != pair]
        return (int(finding),), changed(case, stage=deliberating(*left))

    # Appeals.

    def reasons_of_waive(self, party):
        model = self.model
        return [
            ("not judged", lambda: not model.is_judged),
            ("no superior", lambda: model.next is None),
            ("named", lambda: model.named(party) is not None),
        ]

    def with_named(self, party, pairs, first):
        model = self.model
        named = tuple(pairs if one == party else model.named(one) for one in BOTH)
        return changed(self.case, stage=model.stage[:3] + (named, first))

    def behind_waive(self, party):
        return (), self.with_named(party, (), self.model.stage[4])

    def reasons_of_appeal(self, party, pairs):
        model = self.model
        return self.reasons_of_waive(party) + [
            ("not lost", lambda: not model.lost(party)),
            ("expired", lambda: not model.in_time(self.day, party)),
            ("empty", lambda: pairs == ()),
            ("twice", lambda: sorted(set(pairs)) != sorted(pairs)),
            ("cannot", lambda: not set(pairs) <= set(model.nameable(party))),
        ]

    def behind_appeal(self, party, pairs):
        model = self.model
        first = self.day if model.stage[4] is None else model.stage[4]
        court = model.chain[model.next]
        fees = tuple(
            fee + (model.courts[court][7] if one == party else 0) for one, fee in zip(BOTH, model.fees)
        )
        return (court,), changed(self.with_named(party, pairs, first), fees=fees)

    def reasons_of_hearing(self):
        model = self.model
        return [
            ("not judged", lambda: not model.is_judged),
            ("no appeal", lambda: model.stage[4] is None),
            ("not expired", lambda: not all(model.is_done(self.day, party) for party in BOTH)),
        ]

    def behind_hearing(self):
        model = self.model
        remitted = sorted((model.named("claimant") or ()) + (model.named("respondent") or ()))
        case = with_elements(model, self.case, self.unnamed(*BOTH))
        return (len(remitted),), changed(case, level=model.next, stage=deliberating(*remitted))

    # Stays and enforcement.

    def reasons_of_stay(self, first, last):
        return [
            ("past", lambda: self.day > first),
            ("order", lambda: first > last),
            ("long", lambda: last - first > 30),
            ("many", lambda: len(self.model.stays) >= 6),
        ]

    def behind_stay(self, first, last):
        return (), changed(self.case, stays=self.model.stays + ((first, last),))

    def step(self, claim, *amount):
        """Return what the enforcement step tells."""
        model = self.model
        _, worth, account, _ = model.claims[claim]
        final = model.winner(claim) is not None and is_final(self.config, self.case, self.day, claim)
        step = (self.word, *amount)
        if self.word == "enforce":
            step = ("enforce", worth + worth * model.rate * (self.day - model.day) // YEAR)
        return step_by_table(account, (model.winner(claim), model.ever_judged, final), step)

    def reasons_of_step(self, claim, *amount):
        model = self.model
        if claim not in range(len(model.claims)):
            return [("unknown", lambda: True)]
        reason = self.step(claim, *amount)[0]
        return [(reason, lambda: reason is not None)]

    def behind_step(self, claim, *amount):
        _, moved, account = self.step(claim, *amount)
        claims = [
            row[:2] + (account,) + row[3:] if number == claim else row
            for number, row in enumerate(self.model.claims)
        ]
        return (moved,), changed(self.case, claims=tuple(claims))

    # Contrary votes, point 226.

    def contrary(self, claim):
        if self.word != "ruling" or self.rest[0] != claim or self.outcome[0] is not None:
            return 0
        finding = self.model.element((claim, self.rest[1]))["finding"]
        return self.rest[2].count({"1": "0", "0": "1", "?": "x"}[finding])


def processed_by_definition(config, case, day, filing):
    """Return what a filing in a case tells and the case behind it."""
    return Filing(config, case, day, filing).outcome


def contrary_by_definition(config, case, day, filing, claim):
    """Return the contrary votes of a filing on the claim."""
    return Filing(config, case, day, filing).contrary(claim)
