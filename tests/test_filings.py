"""Point 220: filings in a case, judgment, and all filings by definition."""

import unittest

from casedraw import sound_cases
from casemodel import BOTH, Model
from courtroom import draw_filing
from exact import ExactCase
from filingcase import FilingCase
from filingmodel import contrary_by_definition, processed_by_definition
from overturn.filings import contrary_votes, processed
from rooms import case_as, claim_as, config_of, deliberating, judged

# Each filing with its reasons.
REASONS = {
    "serve": ("nothing to serve", "no superior", "named", "expired", "many"),
    "undelivered": ("nothing to serve", "unknown", "not postal", "already", "effect"),
    "answer": ("judged", "answered"),
    "admit": ("unknown", "judged", "decided", "own issue"),
    "default": ("judged", "answered", "not expired"),
    "oppose": ("no default", "named", "expired"),
    "ruling": (
        "unknown", "judged", "not remitted", "decided", "irrelevant", "bound", "bench", "tag",
    ),
    "appeal": (
        "not judged", "no superior", "named", "not lost", "expired", "empty", "twice", "cannot",
    ),
    "waive": ("not judged", "no superior", "named"),
    "hearing": ("not judged", "no appeal", "not expired"),
    "stay": ("past", "order", "long", "many"),
    "deposit": ("unknown", "limit"),
    "enforce": ("unknown", "not won", "never judged", "already enforced", "security"),
    "restitute": ("unknown", "not won", "nothing enforced"),
    "release": ("unknown", "no security", "required"),
}


class Judgment(FilingCase):

    def test_behind_a_ruling_at_level_0(self):
        case = case_as(claim_as("1??0"), ever_judged=False, stage=deliberating(), number=1)
        parts = {"claims": (claim_as("11?0"),), "stage": judged(7), "ever_judged": True}
        self.accepted((1,), parts, case, 7, "ruling", 0, 1, "1", ())

    def test_not_before_every_claim_is_decided(self):
        case = case_as(claim_as("1??0"), claim_as("????"), ever_judged=False, stage=deliberating())
        parts = {"claims": (claim_as("11?0"), claim_as("????"))}
        case = self.accepted((1,), parts, case, 7, "ruling", 0, 1, "1", ())
        parts = {"claims": (claim_as("11?0"), claim_as("0???")), "stage": judged(9), "ever_judged": True}
        self.accepted((0,), parts, case, 9, "ruling", 1, 0, "0", ())

    def test_not_while_something_is_remitted(self):
        case = case_as(claim_as("11?0"), level=1, stage=deliberating((0, 0), (0, 3)))
        parts = {"stage": deliberating((0, 3))}
        case = self.accepted((1,), parts, case, 7, "ruling", 0, 0, "111", ())
        parts = {"stage": judged(8)}
        self.accepted((0,), parts, case, 8, "ruling", 0, 3, "000", ())

    def test_a_reversed_finding_may_leave_a_claim_undecided(self):
        # The claimant has lost the first claim by issue a; so b and c were never asked.
        case = case_as(claim_as("0??0"), claim_as("0???"), level=1, stage=deliberating((0, 0)))
        parts = {"claims": (claim_as("1??0"), claim_as("0???")), "stage": deliberating()}
        case = self.accepted((1,), parts, case, 7, "ruling", 0, 0, "111", ())
        parts = {"claims": (claim_as("11?0"), claim_as("0???")), "stage": judged(9)}
        self.accepted((1,), parts, case, 9, "ruling", 0, 1, "1", ())

    def test_behind_an_admission_at_a_level_above_0(self):
        case = case_as(claim_as("1??0"), level=1, stage=deliberating())
        parts = {"claims": (claim_as("1?10", barred=(2,)),), "stage": judged(7)}
        self.accepted((), parts, case, 7, "admit", "respondent", 0, 2)
        remitted = case_as(claim_as("1??0"), level=1, stage=deliberating((0, 0)))
        parts = {"claims": (claim_as("1?10", barred=(2,)),)}
        self.accepted((), parts, remitted, 7, "admit", "respondent", 0, 2)

    def test_a_judged_case_stays_as_it_is(self):
        case = case_as(claim_as("11?0"), stage=judged(3, named=((), None)))
        self.accepted((), {"stays": ((7, 8),)}, case, 7, "stay", 7, 8)


class AllFilings(ExactCase):

    def test_by_definition(self):
        found = set()
        for draw, config, case, day in sound_cases(220, 2500):
            for _ in range(6):
                filing = draw_filing(draw, config, case, day)
                told = processed(config, case, day, filing)
                expected = processed_by_definition(config, case, day, filing)
                self.assertExact(told, expected, (config, case, day, filing))
                self.assertExact(Model(config, told[2]).flaw(), None, (config, case, day, filing))
                if told[0] is not None:
                    self.assertExact(told[1:], ((), case))
                for claim in range(len(case[11])):
                    votes = contrary_votes(config, case, day, filing, claim)
                    self.assertExact(votes, contrary_by_definition(config, case, day, filing, claim))
                found.add((filing[0], told[0]))
        told = {(word, reason) for word, reasons in REASONS.items() for reason in reasons + (None,)}
        self.assertEqual(sorted(told - found, key=str), [])
        self.assertEqual(sorted(found - told, key=str), [])

    def test_numbers_that_do_not_exist(self):
        config = config_of("(a and b)")
        cases = (
            case_as(claim_as("11")),
            case_as(claim_as("??"), stage=deliberating()),
            case_as(claim_as("11"), level=1, stage=deliberating((0, 0))),
        )
        for case in cases:
            for claim in range(10):
                for issue in range(10):
                    if (claim, issue) in ((0, 0), (0, 1)):
                        continue
                    for party in BOTH:
                        told = processed(config, case, 5, ("admit", 0, party, claim, issue))
                        self.assertExact(told, ("unknown", (), case))
                    told = processed(config, case, 5, ("ruling", 0, claim, issue, "1", ()))
                    self.assertExact(told, ("unknown", (), case))


if __name__ == "__main__":
    unittest.main()
