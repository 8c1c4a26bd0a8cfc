"""Points 223 and 226: rulings and contrary votes."""

import unittest

from filingcase import CONFIG, FilingCase
from filingmodel import contrary_by_definition
from overturn.filings import contrary_votes
from rooms import (
    HIGH, LOW, MIDDLE, case_as, changed, claim_as, config_of, court, deliberating, judged,
)

NEW = case_as(claim_as("????"), ever_judged=False, stage=deliberating(), number=5)
# Issues a and b of the first claim and issue a of the second one are remitted to the middle court.
HEARD = case_as(
    claim_as("11?0", barred=(3,)), claim_as("11?0"), level=1, tags=(2, 5, 7),
    stage=deliberating((0, 0), (0, 1), (1, 0)),
)
# The lowest court has 3 judges, the middle one 3 and 9, the highest one 5 and 7.
BENCHES = (
    court(HIGH, bench=5, full_bench=7),
    court(MIDDLE, bench=3, full_bench=9),
    court(LOW, bench=3, full_bench=4),
)
LAW = config_of("(a! or b)", courts=BENCHES)


class FreeRulings(FilingCase):

    CONFIG = config_of("((a and (b+ or c!)) unless d*)", courts=BENCHES)

    def ruled(self, case, claim, issue, votes, letter):
        """Check a ruling that is accepted; return the case behind it."""
        claims = list(case[11])
        findings = [element[0] for element in claims[claim][3]]
        findings[issue] = letter
        claims[claim] = claim_as("".join(findings))
        parts = {"claims": tuple(claims)}
        return self.accepted((int(letter),), parts, case, 5, "ruling", claim, issue, votes, (), config=self.CONFIG)

    def test_the_finding_by_each_majority(self):
        for issue, votes, letter in (
            (0, "110", "1"), (0, "100", "0"), (0, "111", "1"), (0, "000", "0"),
            (1, "110", "1"), (1, "010", "0"),
            (3, "111", "1"), (3, "110", "0"),
        ):
            if (issue, letter) not in ((0, "0"), (3, "1")):
                self.ruled(NEW, 0, issue, votes, letter)
                continue
            # The claim is decided, and so judgment is given.
            claim = claim_as("0???") if issue == 0 else claim_as("???1")
            parts = {"claims": (claim,), "stage": judged(5), "ever_judged": True}
            filing = ("ruling", 0, issue, votes, ())
            self.accepted((int(letter),), parts, NEW, 5, *filing, config=self.CONFIG)

    def test_several_rulings_up_to_judgment(self):
        case = self.ruled(NEW, 0, 0, "111", "1")
        case = self.ruled(case, 0, 2, "011", "1")
        parts = {"claims": (claim_as("1?10"),), "stage": judged(8), "ever_judged": True}
        self.accepted((0,), parts, case, 8, "ruling", 0, 3, "011", (), config=self.CONFIG)

    def test_unknown(self):
        for claim, issue in ((0, 4), (0, 9), (1, 0), (9, 9)):
            heard = case_as(claim_as("11?0"), level=1, stage=deliberating((0, 0)))
            for case in (NEW, case_as(claim_as("11?0")), heard):
                self.rejected("unknown", case, 5, "ruling", claim, issue, "", (9,))

    def test_judged(self):
        for level in range(3):
            for issue in range(4):
                case = case_as(claim_as("11?0"), level=level)
                self.rejected("judged", case, 5, "ruling", 0, issue, "1", ())

    def test_decided(self):
        case = changed(NEW, claims=(claim_as("1??0"),))
        for issue in (0, 3):
            for votes in ("1", "0", "", "111"):
                self.rejected("decided", case, 5, "ruling", 0, issue, votes, (1,))

    def test_irrelevant(self):
        case = changed(NEW, claims=(claim_as("0???"), claim_as("?1??")))
        for issue in (1, 2, 3):
            self.rejected("irrelevant", case, 5, "ruling", 0, issue, "11", (1,))
        self.rejected("irrelevant", case, 5, "ruling", 1, 2, "1", ())
        self.accepted(
            (1,), {"claims": (claim_as("0???"), claim_as("11??"))}, case, 5, "ruling", 1, 0, "1", ())

    def test_bench(self):
        for many in (0, 1, 2, 4, 5, 9):
            for letter in "01":
                filing = ("ruling", 0, 0, letter * many, (1,))
                self.rejected("bench", NEW, 5, *filing, config=self.CONFIG)

    def test_tag(self):
        case = changed(NEW, tags=(1, 3))
        for tags in ((0,), (1, 2), (0, 1, 3), (9,)):
            self.rejected("tag", case, 5, "ruling", 0, 0, "1", tags)
        for tags in ((), (1,), (3,), (1, 3)):
            parts = {"claims": (claim_as("1???"),)}
            self.accepted((1,), parts, case, 5, "ruling", 0, 0, "1", tags)

    def test_neither_the_answer_nor_service_matters(self):
        for answered in (True, False):
            case = changed(NEW, answered=answered)
            self.accepted((1,), {"claims": (claim_as("1???"),)}, case, 5, "ruling", 0, 0, "1", ())


class RemittedRulings(FilingCase):

    def test_the_court_at_the_level_of_the_case_rules(self):
        behind = {
            "claims": (claim_as("01?0", barred=(3,)), HEARD[11][1]),
            "stage": deliberating((0, 1), (1, 0)),
        }
        self.accepted((0,), behind, HEARD, 5, "ruling", 0, 0, "010", ())
        behind["claims"] = HEARD[11]
        self.accepted((1,), behind, HEARD, 5, "ruling", 0, 0, "011", (2, 7))

    def test_in_any_order(self):
        behind = {"stage": deliberating((0, 0), (0, 1))}
        self.accepted((1,), behind, HEARD, 5, "ruling", 1, 0, "111", ())
        behind = {"stage": deliberating((0, 0), (1, 0))}
        self.accepted((1,), behind, HEARD, 5, "ruling", 0, 1, "111", ())

    def test_the_last_one_gives_judgment(self):
        case = changed(HEARD, stage=deliberating((0, 1)))
        self.accepted((1,), {"stage": judged(6)}, case, 6, "ruling", 0, 1, "111", ())

    def test_not_remitted(self):
        for claim, issue in ((0, 2), (0, 3), (1, 1), (1, 2)):
            self.rejected("not remitted", HEARD, 5, "ruling", claim, issue, "1", (9,))

    def test_bench_and_tag(self):
        for votes in ("", "1", "11", "0000", "111111111"):
            self.rejected("bench", HEARD, 5, "ruling", 0, 0, votes, (9,))
        self.rejected("tag", HEARD, 5, "ruling", 0, 0, "111", (2, 9))

    def test_the_element_keeps_what_else_it_has(self):
        claim = claim_as("01", bindings={0: (1, True)}, by_default=(1,))
        case = case_as(claim, level=1, stage=deliberating((0, 0), (0, 1)))
        behind = {
            "claims": (claim_as("11", bindings={0: (1, True)}, by_default=(1,)),),
            "stage": deliberating((0, 1)),
        }
        self.accepted((1,), behind, case, 5, "ruling", 0, 0, "011", (), config=LAW)
        behind = {
            "claims": (claim_as("00", bindings={0: (1, True)}, by_default=(1,)),),
            "stage": deliberating((0, 0)),
        }
        self.accepted((0,), behind, case, 5, "ruling", 0, 1, "010", (), config=LAW)


class NothingRemittedAboveLevel0(FilingCase):

    def test_the_court_at_level_0_rules_and_the_case_stays_at_its_level(self):
        for level in (1, 2):
            case = case_as(claim_as("0?"), level=level, stage=deliberating())
            for votes in ("11111", "000000000", "1111", ""):
                self.rejected("bench", case, 5, "ruling", 0, 1, votes, (), config=LAW)
            behind = {"claims": (claim_as("01"),), "stage": judged(7)}
            self.accepted((1,), behind, case, 7, "ruling", 0, 1, "110", (), config=LAW)

    def test_an_irrelevant_issue(self):
        case = case_as(claim_as("0???"), claim_as("????"), level=1, stage=deliberating())
        self.rejected("irrelevant", case, 5, "ruling", 0, 1, "1", ())
        behind = {"claims": (claim_as("0???"), claim_as("?1??"))}
        self.accepted((1,), behind, case, 5, "ruling", 1, 1, "1", ())


class BoundRulings(FilingCase):

    def case(self, level, finding, bound, precedent):
        claim = claim_as(finding + "1", bindings={0: (bound, precedent)})
        return case_as(claim, level=level, tags=(1,), stage=deliberating((0, 0)))

    def check(self, reason, case, votes, tags=()):
        if reason is not None:
            self.rejected(reason, case, 5, "ruling", 0, 0, votes, tags, config=LAW)
            return
        letter = "1" if votes.count("1") > votes.count("0") else "0"
        bindings = {0: case[11][0][3][0][2]}
        behind = {"claims": (claim_as(letter + "1", bindings=bindings),), "stage": judged(5)}
        self.accepted((int(letter),), behind, case, 5, "ruling", 0, 0, votes, tags, config=LAW)

    def test_below_the_level_of_the_precedent(self):
        case = self.case(1, "1", 2, True)
        for votes in ("000", "001", "00000", "0" * 7, "0" * 9, "", "01"):
            self.check("bound", case, votes, (9,))
        self.check(None, case, "110")
        self.check("bench", case, "1" * 5, (9,))
        self.check("bench", case, "1" * 9, (9,))
        case = self.case(1, "0", 2, False)
        self.check("bound", case, "1" * 9, (9,))
        self.check(None, case, "001")
        self.check("bench", case, "", (9,))

    def test_at_the_level_of_the_precedent(self):
        for present in "01":
            case = self.case(1, present, 1, True)
            self.check(None, case, "0" * 5 + "1" * 4)
            self.check(None, case, "011")
            self.check("bench", case, "000", (9,))
            self.check("bench", case, "1" * 9, (9,))
            self.check("tag", case, "1" * 3, (9,))
            self.check("bench", case, "")
            case = self.case(1, present, 1, False)
            self.check(None, case, "1" * 5 + "0" * 4)
            self.check("bench", case, "111")

    def test_above_the_level_of_the_precedent(self):
        for bound in (0, 1):
            for votes in ("00000", "11111", "00111"):
                self.check(None, self.case(2, "1", bound, True), votes)
            self.check("bench", self.case(2, "1", bound, True), "0" * 7)

    def test_bound_is_looked_for_before_bench(self):
        self.check("bound", self.case(1, "1", 2, True), "0")
        self.check("bound", self.case(1, "1", 2, True), "0", (9,))

    def test_without_a_precedent(self):
        case = case_as(claim_as("11"), level=1, stage=deliberating((0, 0)))
        self.rejected("bench", case, 5, "ruling", 0, 0, "0" * 9, (), config=LAW)
        behind = {"claims": (claim_as("01"),), "stage": judged(5)}
        self.accepted((0,), behind, case, 5, "ruling", 0, 0, "000", (), config=LAW)


class ContraryVotes(FilingCase):

    def check(self, expected, case, claim, *filing, config=CONFIG):
        filing = (filing[0], case[0]) + filing[1:]
        self.assertExact(contrary_votes(config, case, 5, filing, claim), expected)
        self.assertExact(contrary_by_definition(config, case, 5, filing, claim), expected)

    def test_against_the_finding_that_stands(self):
        for votes, expected in (("000", 3), ("010", 2), ("011", 1), ("111", 0)):
            self.check(expected, HEARD, 0, "ruling", 0, 0, votes, ())
        lost = changed(HEARD, claims=(claim_as("01?0"), HEARD[11][1]))
        for votes, expected in (("000", 0), ("010", 1), ("011", 2), ("111", 3)):
            self.check(expected, lost, 0, "ruling", 0, 0, votes, ())

    def test_only_on_the_claim_of_the_ruling(self):
        self.check(0, HEARD, 1, "ruling", 0, 0, "000", ())
        self.check(3, HEARD, 1, "ruling", 1, 0, "000", ())
        self.check(0, HEARD, 0, "ruling", 1, 0, "000", ())

    def test_only_if_it_is_accepted(self):
        self.check(0, HEARD, 0, "ruling", 0, 0, "00", ())
        self.check(0, HEARD, 0, "ruling", 0, 0, "000", (9,))
        self.check(0, HEARD, 0, "ruling", 0, 3, "000", ())
        self.check(0, case_as(claim_as("11?0")), 0, "ruling", 0, 0, "000", ())
        self.check(0, HEARD, 0, "ruling", 0, 9, "000", ())
        self.check(0, HEARD, 0, "ruling", 5, 0, "000", ())

    def test_an_undetermined_issue(self):
        for votes in ("0", "1"):
            self.check(0, NEW, 0, "ruling", 0, 0, votes, ())

    def test_every_other_filing(self):
        judgment = case_as(claim_as("11?0"))
        for filing in (
            ("answer",), ("default",), ("oppose",), ("hearing",), ("serve", "claimant", "hand"),
            ("undelivered", "claimant", 0), ("appeal", "respondent", ((0, 0),)), ("waive", "respondent"),
            ("stay", 5, 6), ("deposit", 0, 100), ("enforce", 0), ("restitute", 0), ("release", 0),
            ("admit", "respondent", 0, 2),
        ):
            for case in (NEW, HEARD, judgment):
                self.check(0, case, 0, *filing)

    def test_departing_from_a_precedent(self):
        claim = claim_as("11", bindings={0: (1, True)})
        case = case_as(claim, level=1, stage=deliberating((0, 0)))
        self.check(5, case, 0, "ruling", 0, 0, "0" * 5 + "1" * 4, (), config=LAW)
        self.check(0, case, 0, "ruling", 0, 0, "000", (), config=LAW)


if __name__ == "__main__":
    unittest.main()
