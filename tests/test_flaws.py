"""Point 203: sound cases, and the first reason for which a case is not sound."""

import random
import unittest

from casedraw import draw_case, draw_config, sound_cases
from casemodel import Model
from exact import ExactCase
from overturn.cases import flaw
from rooms import (
    HIGH, LOW, MIDDLE, case_as, changed, claim_as, config_of, court, deliberating, issues_as, judged,
)

CONFIG = config_of("((a and (b+ or c!)) unless d)", "(a! or b!)")
PLAIN = case_as(claim_as("11?0"))
OPEN = case_as(claim_as("1??0"), stage=deliberating(), ever_judged=False)
# At level 1, with issue a remitted.
HEARD = case_as(claim_as("11?0", barred=(1, 3)), level=1, stage=deliberating((0, 0)))


class FlawCase(ExactCase):

    def check(self, expected, case, config=CONFIG):
        self.assertExact(flaw(config, case), expected, case)
        self.assertExact(Model(config, case).flaw(), expected, case)


class Sound(FlawCase):

    def test_cases_that_are_sound(self):
        self.check(None, PLAIN)
        self.check(None, OPEN)
        self.check(None, HEARD)
        self.check(None, changed(PLAIN, level=1))
        self.check(None, changed(PLAIN, level=2))
        self.check(None, changed(PLAIN, chain=(1, 0)))
        self.check(None, changed(PLAIN, chain=(0,)))

    def test_drawn_ones(self):
        for _, config, case, _ in sound_cases(203, 600):
            self.check(None, case, config)


class Parts(FlawCase):

    def test_parties(self):
        self.check("parties", changed(PLAIN, parties=(3, 3)))
        self.check("parties", changed(PLAIN, parties=(0, 0)))
        self.check(None, changed(PLAIN, parties=(9, 0)))

    def test_chain(self):
        for chain in ((2, 1), (2, 0), (1,), (2, 1, 0, 0), (1, 2, 0), (3, 1, 0), (9,), (0, 0), (2,), (0, 1)):
            self.check("chain", changed(PLAIN, chain=chain))

    def test_level(self):
        for level in (3, 4, 9):
            self.check("level", changed(PLAIN, level=level))
        self.check("level", changed(PLAIN, chain=(1, 0), level=2))
        self.check("level", changed(PLAIN, chain=(0,), level=1))

    def test_claims(self):
        for claim in (
            claim_as("11?0", cause=2),
            claim_as("11?0", cause=9),
            claim_as("11?"),
            claim_as("11?00"),
            claim_as("11", cause=0),
            claim_as("11?0", cause=1),
        ):
            self.check("claims", changed(PLAIN, claims=(claim,)))
            self.check("claims", changed(PLAIN, claims=PLAIN[11] + (claim,)))
        self.check(None, changed(PLAIN, claims=(claim_as("10", cause=1),)))

    def test_undetermined(self):
        for special in ({"barred": (2,)}, {"bindings": {2: (0, True)}}, {"by_default": (2,)}):
            self.check("undetermined", changed(PLAIN, claims=(claim_as("11?0", **special),)))
            sound = claim_as("11?0")
            self.check("undetermined", changed(PLAIN, claims=(sound, claim_as("11?0", **special))))


class Binding(FlawCase):

    def test_an_issue_of_fact(self):
        for issue in (0, 1, 3):
            for level in (0, 2):
                bindings = {issue: (level, issue != 3)}
                self.check("binding", case_as(claim_as("1110", bindings=bindings)))

    def test_a_level_that_the_chain_does_not_have(self):
        for level, expected in ((0, None), (1, None), (2, None), (3, "binding"), (9, "binding")):
            self.check(expected, case_as(claim_as("1110", bindings={2: (level, True)})))
            high = case_as(claim_as("1110", bindings={2: (level, True)}), level=2)
            self.check(expected, high)
        self.check("binding", case_as(claim_as("1110", bindings={2: (1, True)}), chain=(0,)))

    def test_another_finding_only_from_its_level_on(self):
        for level in range(3):
            for case_level in range(3):
                expected = "binding" if case_level < level else None
                for finding, other in (("1", False), ("0", True)):
                    claim = claim_as("11" + finding + "0", bindings={2: (level, other)})
                    self.check(expected, case_as(claim, level=case_level))

    def test_while_a_court_deliberates(self):
        claim = claim_as("1?10", bindings={2: (1, False)})
        self.check("binding", case_as(claim, claim_as("1??0"), stage=deliberating()))
        remitted = case_as(claim, level=1, stage=deliberating((0, 2)))
        self.check(None, remitted)


class Default(FlawCase):

    def test_with_a_precedent(self):
        claim = claim_as("1110", bindings={2: (0, True)}, by_default=(2,))
        for level in range(3):
            self.check("default", case_as(claim, level=level))

    def test_at_level_0_a_court_deliberates(self):
        claims = (claim_as("1110", by_default=(0,)), claim_as("????"))
        self.check("default", case_as(*claims, stage=deliberating()))
        above = case_as(*claims, level=1, stage=deliberating())
        self.check(None, above)

    def test_at_level_0_a_finding_favours_the_respondent(self):
        for findings, issue in (("0110", 0), ("1111", 3), ("1001", 1)):
            claim = claim_as(findings, by_default=(issue,))
            self.check("default", case_as(claim))
            self.check(None, case_as(claim, level=1))
        for findings, issue in (("0110", 1), ("1111", 0), ("0000", 3)):
            self.check(None, case_as(claim_as(findings, by_default=(issue,))))

    def test_at_level_0_an_issue_is_barred(self):
        claim = claim_as("1110", barred=(0,), by_default=(0,))
        self.check("default", case_as(claim))
        self.check(None, case_as(claim, level=1))
        self.check(None, case_as(claim_as("1110", barred=(1,), by_default=(0,))))


class Remitted(FlawCase):

    def heard(self, *pairs, **special):
        claim = claim_as("11?0", **special)
        return case_as(claim, claim_as("111?"), level=1, stage=deliberating(*pairs))

    def test_sound_ones(self):
        self.check(None, self.heard((0, 0), (0, 3), (1, 2)))
        self.check(None, self.heard((0, 1)))

    def test_at_level_0(self):
        self.check("remitted", changed(self.heard((0, 0)), level=0))

    def test_not_ascending(self):
        self.check("remitted", self.heard((0, 1), (0, 0)))
        self.check("remitted", self.heard((1, 0), (0, 1)))
        self.check("remitted", self.heard((0, 1), (0, 1)))
        self.check("remitted", self.heard((0, 0), (0, 3), (0, 1)))

    def test_no_issue_of_the_case(self):
        for pair in ((0, 4), (0, 9), (2, 0), (9, 9)):
            self.check("remitted", self.heard((0, 0), pair))
            self.check("remitted", self.heard(pair))

    def test_undetermined_or_barred(self):
        self.check("remitted", self.heard((0, 0), (0, 2)))
        self.check("remitted", self.heard((1, 3)))
        self.check("remitted", self.heard((0, 0), (0, 3), barred=(3,)))
        self.check(None, self.heard((0, 0), barred=(3,)))

    def test_not_reviewed_by_the_court_at_the_level(self):
        case = case_as(claim_as("1110"), level=2, stage=deliberating((0, 2)))
        self.check(None, case)
        self.check("remitted", changed(case, stage=deliberating((0, 1), (0, 2))))
        for amount, expected in ((51, None), (50, None), (49, "remitted")):
            self.check(expected, changed(case, claims=(claim_as("1110", amount=amount),)))
        # The court at the next level does not matter.
        self.check(None, changed(case, level=1, stage=deliberating((0, 1), (0, 2))))


class Judgment(FlawCase):

    def test_a_judged_case_with_an_undecided_claim(self):
        self.check("judgment", case_as(claim_as("1??0")))
        self.check("judgment", case_as(claim_as("11?0"), claim_as("????")))

    def test_a_deliberating_court_with_nothing_to_do(self):
        self.check("judgment", case_as(claim_as("11?0"), stage=deliberating()))
        self.check("judgment", case_as(claim_as("11?0"), claim_as("0???"), level=1, stage=deliberating()))
        self.check(None, case_as(claim_as("11?0"), claim_as("1???"), stage=deliberating()))
        self.check(None, case_as(claim_as("11?0"), level=1, stage=deliberating((0, 0))))


class Named(FlawCase):

    def named(self, *named, first_appeal=1, level=0, attempts=((), ()), **special):
        claims = (claim_as("11?0", **special), claim_as("0???"))
        stage = judged(0, attempts, named, first_appeal)
        return case_as(*claims, level=level, stage=stage)

    def test_sound_ones(self):
        self.check(None, self.named(None, ((0, 0),)))
        self.check(None, self.named(((1, 0),), ((0, 3), (0, 0))))
        self.check(None, self.named((), (), first_appeal=None))
        self.check(None, self.named((), ((0, 1),)))
        self.check(None, self.named(None, (), first_appeal=None))

    def test_a_pair_twice(self):
        self.check("named", self.named(None, ((0, 0), (0, 0))))
        self.check("named", self.named(None, ((0, 0), (0, 1), (0, 0))))
        self.check("named", self.named(((1, 0), (1, 0)), None))

    def test_a_pair_that_is_no_issue(self):
        for pair in ((0, 4), (0, 9), (2, 0), (9, 9)):
            self.check("named", self.named(None, ((0, 0), pair)))
            self.check("named", self.named((pair,), None))

    def test_a_pair_that_the_party_cannot_name(self):
        for pair in ((0, 2), (1, 0), (1, 1)):
            self.check("named", self.named(None, ((0, 0), pair)))
        for pair in ((0, 0), (0, 2), (1, 1)):
            self.check("named", self.named((pair,), None))
        self.check("named", self.named(None, ((0, 0),), barred=(0,)))
        self.check(None, self.named(None, ((0, 1),), barred=(0,)))
        self.check("named", self.named(None, ((0, 0),), level=1))

    def test_no_next_level(self):
        self.check("named", self.named(None, (), level=2, first_appeal=None))
        self.check("named", self.named((), None, level=2, first_appeal=None))
        self.check("named", self.named(None, ((0, 0),), level=2))
        self.check(None, self.named(None, None, level=2, first_appeal=None))

    def test_attempts_without_a_next_level(self):
        attempt = ((3, "hand", False),)
        for attempts in ((attempt, ()), ((), attempt), (attempt, attempt)):
            case = self.named(None, None, level=2, first_appeal=None, attempts=attempts)
            self.check("named", case)
            self.check(None, changed(case, level=1))
            self.check("named", changed(case, level=1, chain=(1, 0)))
        # Attempts to serve the complaint may stand.
        self.check(None, changed(PLAIN, level=2, attempts=attempt))


class FirstAppeal(FlawCase):

    def test_without_a_named_issue(self):
        for named in ((None, None), ((), ()), ((), None), (None, ())):
            self.check("first appeal", changed(PLAIN, stage=judged(0, named=named, first_appeal=0)))
            self.check(None, changed(PLAIN, stage=judged(0, named=named)))

    def test_a_named_issue_without_one(self):
        for named in ((None, ((0, 0),)), ((), ((0, 0),))):
            self.check("first appeal", changed(PLAIN, stage=judged(0, named=named)))
            self.check(None, changed(PLAIN, stage=judged(0, named=named, first_appeal=0)))
        lost = case_as(claim_as("0???"))
        self.check("first appeal", changed(lost, stage=judged(0, named=(((0, 0),), None))))
        self.check("first appeal", changed(PLAIN, level=2, stage=judged(0, first_appeal=4)))


class EverJudged(FlawCase):

    def test_a_judged_case_or_a_higher_level(self):
        self.check("ever judged", changed(PLAIN, ever_judged=False))
        self.check("ever judged", changed(PLAIN, level=2, ever_judged=False))
        self.check("ever judged", changed(HEARD, ever_judged=False))
        self.check(None, changed(OPEN, ever_judged=False))
        self.check(None, changed(OPEN, ever_judged=True))


class Order(FlawCase):
    """Each reason together with later ones: the first one in the table is told."""

    def test_each_reason_before_the_later_ones(self):
        # From the last reason to the first one, each change adds a reason to the case.
        case = changed(PLAIN, ever_judged=False)
        self.check("ever judged", case)
        case = changed(case, stage=judged(0, first_appeal=3))
        self.check("first appeal", case)
        case = changed(case, stage=judged(0, named=(((0, 0),), None)))
        self.check("named", case)
        case = changed(case, claims=(claim_as("1??0"),))
        self.check("judgment", case)
        claim = claim_as("1??0", by_default=(0,), barred=(0,))
        case = changed(case, claims=(claim,))
        self.check("default", case)
        claim = claim_as("1??0", by_default=(0,), bindings={0: (0, True)})
        case = changed(case, claims=(claim,))
        self.check("binding", case)
        claim = claim_as("1??0", by_default=(0,), bindings={0: (0, True)}, barred=(1,))
        case = changed(case, claims=(claim,))
        self.check("undetermined", case)
        case = changed(case, claims=(claim, claim_as("1??")))
        self.check("claims", case)
        case = changed(case, level=5)
        self.check("level", case)
        case = changed(case, chain=(2, 1))
        self.check("chain", case)
        self.check("parties", changed(case, parties=(4, 4)))

    def test_remitted_behind_default_and_before_judgment(self):
        case = case_as(claim_as("11?0"), stage=deliberating((0, 0)), ever_judged=False)
        self.check("remitted", case)
        case = changed(case, claims=(claim_as("11?0", by_default=(0,)),))
        self.check("default", case)
        undecided = case_as(claim_as("1110", barred=(0,)), level=1, stage=deliberating((0, 0)), ever_judged=False)
        self.check("remitted", undecided)


def broken(draw, config, case):
    """Return the case with one part changed at random, which often breaks it."""
    word = draw.choice(("parties", "chain", "level", "claims", "element", "element", "stage", "ever_judged", "named"))
    if word == "parties":
        return changed(case, parties=(2, draw.choice((1, 2))))
    if word == "chain":
        return changed(case, chain=draw.choice((case[5][1:] or (7,), case[5] + (0,), case[5][::-1])))
    if word == "level":
        return changed(case, level=draw.choice((0, 0, case[12] + 1, case[12] + 1, 9)))
    if word == "ever_judged":
        return changed(case, ever_judged=not case[9])
    if word == "claims":
        number, amount, account, issues = case[11][-1]
        claim = draw.choice((
            (number + 1, amount, account, issues),
            (number, 10, account, issues),
            (number, amount, account, issues[:-1] or issues_as("11")),
            (number, amount, account, issues + issues_as("1")),
        ))
        return changed(case, claims=case[11][:-1] + (claim,))
    if word == "element":
        place = draw.randrange(len(case[11]))
        number, amount, account, issues = case[11][place]
        issue = draw.randrange(len(issues))
        finding, barred, binding, by_default = issues[issue]
        element = draw.choice((
            (draw.choice("01?"), barred, binding, by_default),
            (finding, not barred, binding, by_default),
            (finding, barred, (draw.randint(0, 3), draw.random() < 0.5), by_default),
            (finding, barred, binding, not by_default),
        ))
        issues = issues[:issue] + (element,) + issues[issue + 1:]
        claims = case[11][:place] + ((number, amount, account, issues),) + case[11][place + 1:]
        return changed(case, claims=claims)
    pairs = tuple((draw.randint(0, len(case[11]) - 1), draw.randint(0, 2)) for _ in range(draw.randint(0, 2)))
    if case[13][0] == "deliberating" or word == "stage":
        return changed(case, stage=draw.choice((deliberating(*pairs), deliberating(*sorted(set(pairs))), judged())))
    attempts = draw.choice((((), ()), (((1, "hand", False),), ())))
    named = draw.choice(((None, pairs), (pairs, None), ((), ()), (None, None), (pairs, pairs)))
    return changed(case, stage=judged(0, attempts, named, draw.choice((None, 0, 5))))


class Drawn(FlawCase):

    def test_by_the_table(self):
        draw = random.Random(2030)
        found = {}
        for _ in range(5000):
            config = draw_config(draw, issues=3)
            case = draw_case(draw, config)
            for _ in range(draw.choice((1, 1, 2, 3))):
                case = broken(draw, config, case)
            expected = Model(config, case).flaw()
            self.check(expected, case, config)
            found[expected] = found.get(expected, 0) + 1
        self.assertEqual(len(found), 13, found)
        self.assertGreater(min(found.values()), 20, found)

    def test_another_court_reviews_less(self):
        config = config_of("(a and b)", courts=(HIGH, court(MIDDLE, least=101), LOW))
        case = case_as(claim_as("11"), stage=judged(0, named=(None, ((0, 0),)), first_appeal=0))
        self.check("named", case, config)
        self.check(None, changed(case, claims=(claim_as("11", amount=101),)), config)


if __name__ == "__main__":
    unittest.main()
