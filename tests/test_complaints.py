"""Point 231: complaints."""

import random
import unittest

from casedraw import draw_config
from casemodel import Model, leaves_of
from courtroom import draw_complaint
from drawing import draw_precedents
from exact import ExactCase
from overturn.complaints import opened
from overturn.jurisdiction import competent_court
from overturn.precedents import controlling_precedent
from rooms import HIGH, LOW, MIDDLE, claim_as, config_of, court, deliberating, judged

CONFIG = config_of("((a and (b+ or c!)) unless d)", "(a! or b!)")
COMPLAINT = ("complaint", 1, (2, 5), 3, 4, ((0, 100),))


def precedent(case=0, claim=0, issue=2, cause=0, ruled_by=2, finding=True, tags=()):
    return case, claim, issue, cause, ruled_by, finding, tags


class Complaints(ExactCase):

    def complaint(self, *claims, category=1, tags=(2, 5), claimant=3, respondent=4):
        return "complaint", category, tags, claimant, respondent, claims

    def test_the_parts_of_the_new_case(self):
        reason, numbers, case = opened(CONFIG, (), 3, 17, self.complaint((0, 100), (1, 7)))
        self.assertExact((reason, numbers), (None, (3, 2)))
        expected = (
            3, 17, 1, (2, 5), (3, 4), (2, 1, 0), False, (), (), False, (1, 0),
            (claim_as("????"), claim_as("??", cause=1, amount=7)), 0, ("deliberating", ()),
        )
        self.assertExact(case, expected)

    def test_the_competent_court_by_the_category_and_the_sum(self):
        jurisdiction = (((0, 1, 2, 3), 150, None, 1), ((0, 1), 0, 149, 2), ((2, 3), 0, 149, 0))
        config = config_of("(a or b)", jurisdiction=jurisdiction)
        for category, amounts, number, chain, fee in (
            (1, (100, 49), 2, (2, 1, 0), 1),
            (1, (100, 50), 1, (1, 0), 5),
            (2, (100, 49), 0, (0,), 10),
            (3, (50, 50, 50), 1, (1, 0), 5),
            (0, (149,), 2, (2, 1, 0), 1),
        ):
            complaint = self.complaint(*((0, amount) for amount in amounts), category=category)
            reason, numbers, case = opened(config, (), 0, 0, complaint)
            self.assertExact((reason, numbers), (None, (0, number)))
            self.assertExact((case[5], case[10], case[2]), (chain, (fee, 0), category))

    def test_many(self):
        for number in (6, 7, 9):
            for complaint in (
                self.complaint((0, 100)),
                self.complaint((5, 100), respondent=3),
                self.complaint((5, 100)),
            ):
                self.assertExact(opened(CONFIG, (), number, 0, complaint), ("many", (), None))
        self.assertExact(opened(CONFIG, (), 5, 0, self.complaint((0, 100)))[:2], (None, (5, 2)))

    def test_same(self):
        for claims in (((0, 100),), ((9, 100),), ((0, 100), (2, 1))):
            complaint = self.complaint(*claims, claimant=0, respondent=0)
            self.assertExact(opened(CONFIG, (), 0, 0, complaint), ("same", (), None))

    def test_cause(self):
        for claims in (((2, 100),), ((9, 100),), ((0, 100), (2, 100)), ((2, 1), (1, 1), (0, 1))):
            self.assertExact(opened(CONFIG, (), 0, 0, self.complaint(*claims)), ("cause", (), None))
        self.assertExact(opened(CONFIG, (), 0, 0, self.complaint((1, 100)))[0], None)


class Precedents(ExactCase):

    def issues(self, *precedents, tags=(2, 5), config=CONFIG, claims=((0, 100),)):
        _, _, case = opened(config, precedents, 0, 4, ("complaint", 1, tags, 3, 4, claims))
        self.assertExact(case[12:], (0, deliberating()))
        return [claim[3] for claim in case[11]]

    def test_by_each_court_of_the_chain(self):
        for number, level in ((2, 0), (1, 1), (0, 2)):
            for finding, letter in ((True, "1"), (False, "0")):
                found = self.issues(precedent(ruled_by=number, finding=finding))
                expected = claim_as("??" + letter + "?", bindings={2: (level, finding)})[3]
                self.assertExact(found, [expected])

    def test_only_of_the_cause_the_issue_and_the_chain(self):
        plain = [claim_as("????")[3]]
        for other in (
            precedent(issue=1), precedent(issue=3), precedent(cause=1), precedent(ruled_by=3),
            precedent(tags=(2, 3)), precedent(tags=(1,)),
        ):
            self.assertExact(self.issues(other), plain)
        for tags in ((), (2,), (2, 5)):
            found = self.issues(precedent(tags=tags))
            self.assertExact(found, [claim_as("??1?", bindings={2: (0, True)})[3]])
        self.assertExact(self.issues(precedent(tags=(2, 5)), tags=(2,)), plain)

    def test_only_issues_of_law(self):
        others = tuple(precedent(claim=issue, issue=issue) for issue in range(4))
        self.assertExact(self.issues(*others), [claim_as("??1?", bindings={2: (0, True)})[3]])

    def test_the_claim_and_the_case_of_the_precedent_do_not_matter(self):
        found = self.issues(precedent(case=7, claim=2), claims=((0, 100), (1, 5), (0, 9)))
        bound = claim_as("??1?", bindings={2: (0, True)})[3]
        self.assertExact(found, [bound, claim_as("??", cause=1)[3], bound])

    def test_the_highest_court_controls_and_then_the_latest_precedent(self):
        found = self.issues(
            precedent(case=1, ruled_by=1, finding=False),
            precedent(case=2, ruled_by=1, finding=True),
            precedent(case=3, ruled_by=2, finding=False),
        )
        self.assertExact(found, [claim_as("??1?", bindings={2: (1, True)})[3]])

    def test_more_than_12_precedents(self):
        others = tuple(precedent(case=case, issue=1) for case in range(14))
        last = precedent(case=50, ruled_by=0, finding=False)
        expected = [claim_as("??0?", bindings={2: (2, False)})[3]]
        self.assertExact(self.issues(*others, last), expected)
        self.assertExact(self.issues(last, *others), expected)

    def test_judgment_may_be_given_at_once(self):
        both = (precedent(issue=0, cause=1, finding=False), precedent(issue=1, cause=1, ruled_by=0, finding=False))
        complaint = ("complaint", 1, (), 3, 4, ((1, 100),))
        reason, numbers, case = opened(CONFIG, both, 2, 9, complaint)
        claim = claim_as("00", bindings={0: (0, False), 1: (2, False)}, cause=1)
        expected = (
            2, 9, 1, (), (3, 4), (2, 1, 0), False, (), (), True, (1, 0), (claim,), 0, judged(9),
        )
        self.assertExact((reason, numbers, case), (None, (2, 2), expected))
        one = opened(CONFIG, (precedent(issue=0, cause=1),), 2, 9, complaint)[2]
        self.assertExact((one[9], one[13]), (True, judged(9)))
        two = opened(CONFIG, both, 2, 9, complaint[:5] + (((1, 100), (0, 100)),))[2]
        self.assertExact((two[9], two[12:]), (False, (0, deliberating())))

    def test_drawn_complaints(self):
        draw = random.Random(231)
        bound = 0
        for _ in range(800):
            config = draw_config(draw)
            precedents = draw_precedents(draw, draw.randint(0, 14))
            complaint = draw_complaint(draw, config)
            number, day = draw.randint(0, 7), draw.randint(0, 40)
            _, category, tags, claimant, respondent, pairs = complaint
            reason, numbers, case = opened(config, precedents, number, day, complaint)
            expected = None
            if any(cause >= len(config[4]) for cause, _ in pairs):
                expected = "cause"
            if claimant == respondent:
                expected = "same"
            if number >= 6:
                expected = "many"
            self.assertExact(reason, expected)
            if reason is not None:
                self.assertExact((numbers, case), ((), None))
                continue
            self.assertExact(Model(config, case).flaw(), None, (config, case))
            first = competent_court(config[5], category, sum(amount for _, amount in pairs))
            self.assertExact(numbers, (number, first))
            self.assertExact(case[5][0], first)
            self.assertExact([claim[:3] for claim in case[11]], [(*pair, (0, 0)) for pair in pairs])
            for cause, _, _, issues in case[11]:
                for issue, (leaf, element) in enumerate(zip(leaves_of(config[4][cause]), issues)):
                    binding = None
                    if leaf[0]:
                        binding = controlling_precedent(case[5], precedents, cause, issue, tags)
                    letter = "?" if binding is None else str(int(binding[1]))
                    self.assertExact(element, (letter, False, binding, False))
                    bound += binding is not None
        self.assertGreater(bound, 50)

    def test_a_court_with_another_fee(self):
        config = config_of("(a or b)", courts=(HIGH, MIDDLE, court(LOW, fee=0)))
        case = opened(config, (), 0, 0, COMPLAINT)[2]
        self.assertExact(case[10], (0, 0))


if __name__ == "__main__":
    unittest.main()
