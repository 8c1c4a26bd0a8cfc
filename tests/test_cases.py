"""Points 200, 201 and 202: findings, winners, adverse issues, what a party can name."""

import unittest

from casedraw import sound_cases
from casemodel import BOTH, Model
from exact import ExactCase
from overturn.cases import adverse_issues, claim_winner, findings_of, nameable_issues
from rooms import HIGH, LOW, MIDDLE, case_as, changed, claim_as, config_of, court, deliberating

CONFIG = config_of("((a and (b+ or c!)) unless d)", "(a unless (b or c!))")


class Findings(ExactCase):

    def test_of_each_claim(self):
        case = case_as(claim_as("11?0"), claim_as("010", cause=1), claim_as("????"), stage=deliberating())
        self.assertExact([findings_of(case, claim) for claim in range(3)], ["11?0", "010", "????"])

    def test_neither_barring_nor_precedents_nor_defaults_matter(self):
        case = case_as(claim_as("1010", barred=(0,), bindings={2: (1, True)}, by_default=(1, 3)))
        self.assertExact(findings_of(case, 0), "1010")


class Winners(ExactCase):

    def test_each_claim_has_its_own_cause(self):
        case = case_as(claim_as("11?0"), claim_as("0??", cause=1), claim_as("1??", cause=1), claim_as("?1?0"))
        found = [claim_winner(CONFIG, case, claim) for claim in range(4)]
        self.assertExact(found, ["claimant", "respondent", None, None])
        other = case_as(claim_as("1?1"), claim_as("100"), claim_as("0??"))
        found = [claim_winner(config_of("(a unless (b or c!))"), other, claim) for claim in range(3)]
        self.assertExact(found, ["respondent", "claimant", "respondent"])

    def test_in_every_stage(self):
        for stage in (deliberating(), deliberating((0, 0)), ("judged", 3, ((), ()), (None, None), None)):
            case = case_as(claim_as("11?0"), level=1, stage=stage)
            self.assertExact(claim_winner(CONFIG, case, 0), "claimant")


class Adverse(ExactCase):

    def test_findings_that_favour_the_opponent(self):
        case = case_as(claim_as("1110"))
        self.assertExact(adverse_issues(CONFIG, case, "respondent"), ((0, 0), (0, 1), (0, 2), (0, 3)))
        self.assertExact(adverse_issues(CONFIG, case, "claimant"), ())
        case = case_as(claim_as("1011"))
        self.assertExact(adverse_issues(CONFIG, case, "claimant"), ((0, 1), (0, 3)))
        self.assertExact(adverse_issues(CONFIG, case, "respondent"), ())

    def test_an_undetermined_issue_favours_nobody(self):
        case = case_as(claim_as("11?0"))
        self.assertExact(adverse_issues(CONFIG, case, "respondent"), ((0, 0), (0, 1), (0, 3)))

    def test_a_barred_issue_is_adverse_to_nobody(self):
        case = case_as(claim_as("1110", barred=(0, 2)))
        self.assertExact(adverse_issues(CONFIG, case, "respondent"), ((0, 1), (0, 3)))
        self.assertExact(adverse_issues(CONFIG, case, "claimant"), ())
        case = case_as(claim_as("1110", barred=(0, 1, 2, 3)))
        self.assertExact(adverse_issues(CONFIG, case, "respondent"), ())

    def test_only_in_claims_that_the_party_has_lost(self):
        case = case_as(claim_as("1110"), claim_as("0110"), claim_as("1??0"), stage=deliberating())
        self.assertExact(adverse_issues(CONFIG, case, "respondent"), ((0, 0), (0, 1), (0, 2), (0, 3)))
        self.assertExact(adverse_issues(CONFIG, case, "claimant"), ((1, 0),))

    def test_an_undecided_claim_is_lost_by_nobody(self):
        case = case_as(claim_as("1??0"), stage=deliberating())
        for party in BOTH:
            self.assertExact(adverse_issues(CONFIG, case, party), ())

    def test_defaults_and_precedents_do_not_matter(self):
        case = case_as(claim_as("1110", bindings={2: (0, True)}, by_default=(0, 3)))
        self.assertExact(adverse_issues(CONFIG, case, "respondent"), ((0, 0), (0, 1), (0, 2), (0, 3)))

    def test_in_every_stage(self):
        for stage in (deliberating((0, 0)), deliberating()):
            case = case_as(claim_as("1110"), claim_as("1??0"), level=1, stage=stage)
            self.assertExact(adverse_issues(CONFIG, case, "respondent"), ((0, 0), (0, 1), (0, 2), (0, 3)))


class Nameable(ExactCase):

    CASE = case_as(claim_as("1110", amount=50), claim_as("0110", amount=49))

    def test_what_the_court_at_the_next_level_reviews(self):
        self.assertExact(nameable_issues(CONFIG, self.CASE, "respondent"), ((0, 0), (0, 1), (0, 2), (0, 3)))
        self.assertExact(nameable_issues(CONFIG, self.CASE, "claimant"), ((1, 0),))

    def test_a_court_that_does_not_review_facts(self):
        case = changed(self.CASE, level=1)
        self.assertExact(nameable_issues(CONFIG, case, "respondent"), ((0, 2),))
        self.assertExact(nameable_issues(CONFIG, case, "claimant"), ())

    def test_the_least_amount(self):
        for least, expected in ((49, ((0, 2),)), (50, ((0, 2),)), (51, ())):
            config = config_of("((a and (b+ or c!)) unless d)", courts=(court(HIGH, least=least), MIDDLE, LOW))
            found = nameable_issues(config, changed(self.CASE, level=1), "respondent")
            self.assertExact(found, expected, least)

    def test_no_next_level(self):
        for level, chain in ((2, (2, 1, 0)), (1, (1, 0)), (0, (0,))):
            case = changed(self.CASE, level=level, chain=chain)
            for party in BOTH:
                self.assertExact(nameable_issues(CONFIG, case, party), ())

    def test_the_next_level_is_that_of_the_chain(self):
        courts = (HIGH, court(LOW, superior=0, facts=False), court(MIDDLE, superior=0), court(LOW, superior=2))
        config = config_of("((a and (b+ or c!)) unless d)", courts=courts)
        case = changed(self.CASE, chain=(3, 2, 0))
        self.assertExact(nameable_issues(config, case, "claimant"), ((1, 0),))
        self.assertExact(nameable_issues(config, changed(self.CASE, chain=(1, 0)), "claimant"), ())

    def test_in_every_stage_whatever_was_named(self):
        for stage in (
            deliberating(),
            deliberating((0, 0)),
            ("judged", 0, ((), ()), (None, ((0, 0),)), 5),
            ("judged", 0, ((), ()), ((), ()), None),
        ):
            case = changed(self.CASE, stage=stage, level=1, claims=self.CASE[11])
            self.assertExact(nameable_issues(CONFIG, case, "respondent"), ((0, 2),))

    def test_a_barred_issue_cannot_be_named(self):
        case = case_as(claim_as("1110", barred=(0, 3)))
        self.assertExact(nameable_issues(CONFIG, case, "respondent"), ((0, 1), (0, 2)))


class Drawn(ExactCase):

    def test_by_definition(self):
        for _, config, case, _ in sound_cases(202, 600):
            model = Model(config, case)
            for claim in range(len(case[11])):
                self.assertExact(findings_of(case, claim), model.findings(claim))
                self.assertExact(claim_winner(config, case, claim), model.winner(claim), case)
            for party in BOTH:
                self.assertExact(adverse_issues(config, case, party), model.adverse(party), case)
                self.assertExact(nameable_issues(config, case, party), model.nameable(party), case)


if __name__ == "__main__":
    unittest.main()
