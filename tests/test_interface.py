"""Point 280 and the head of "The interface": names, places of arguments, files."""

import importlib
import inspect
import unittest

from exact import ExactCase

INTERFACE = {
    "calendars": {
        "is_business_day": "calendar, day",
        "next_business_day": "calendar, day",
        "previous_business_day": "calendar, day",
        "count_business_days": "calendar, first, last",
        "business_day_after": "calendar, day, many",
    },
    "stays": {
        "is_stayed": "stays, day",
        "normal_stays": "stays",
        "count_stayed_days": "stays, first, last",
    },
    "terms": {
        "count_counting_days": "calendar, stays, kind, first, last",
        "term_end": "calendar, stays, kind, day, days",
        "latest_start": "calendar, stays, kind, days, day",
    },
    "service": {
        "effect_day": "rules, attempt",
        "service_day": "rules, attempts",
        "decisive_attempts": "rules, attempts",
    },
    "periods": {
        "own_end": "rules, kind, days, clock",
        "period_end": "rules, kind, days, clock",
        "is_permitted": "rules, kind, days, clock, day, event",
        "clock_after": "rules, kind, days, clock, day, event",
        "changing_events": "rules, kind, days, clock, day",
    },
    "intake": {
        "new_queue": "offices",
        "rejection": "queue, stamp",
        "submitted": "queue, stamp",
        "admissible_stamps": "queue",
        "awaited_stamp": "queue",
    },
    "reader": {
        "read_cause": "text",
    },
    "printer": {
        "show_cause": "cause",
    },
    "causes": {
        "issues_of": "cause",
        "depth_of": "cause",
        "value_of": "cause, findings",
        "winner_by": "cause, findings",
    },
    "relevance": {
        "relevant_issues": "cause, findings",
        "least_rulings": "cause, findings, party",
        "stalling_finding": "cause, findings, issue",
    },
    "costs": {
        "least_cost": "cause, costs, party",
        "assignment_cost": "costs, assignment",
    },
    "grounds": {
        "each_ground": "cause, party",
        "count_grounds": "cause, party",
        "ground_at": "cause, party, number",
        "ground_number": "cause, party, assignment",
        "supports": "findings, assignment",
    },
    "packings": {
        "packing_for": "cause, costs, party",
        "total_weight": "packing",
        "merged": "first, second",
        "check_certificate": "cause, costs, party, packing, assignment",
    },
    "courts": {
        "appeal_chain": "courts, court",
        "subordinates": "courts, court",
        "common_superior": "courts, first, second",
    },
    "jurisdiction": {
        "applicable_rules": "jurisdiction, category, amount",
        "competent_court": "jurisdiction, category, amount",
        "first_gap": "jurisdiction",
        "first_overlap": "jurisdiction",
    },
    "voting": {
        "votes_needed": "bench, majority",
        "count_votes": "majority, votes, previous",
        "least_agreeing": "bench, majority, many",
        "agreeing_votes": "bench, majority, many",
    },
    "precedents": {
        "controlling_precedent": "chain, precedents, cause, issue, tags",
        "distinguished": "chain, precedents, cause, issue, tags",
        "record_precedent": "precedents, precedent",
    },
    "review": {
        "reviews": "court, of_law, amount",
        "needed_at": "court, matter, level",
        "is_allowed": "court, matter, level, votes",
        "review_path": "courts, chain, matter, level, top",
        "cheapest_rulings": "courts, chain, matter, finding, level, top",
    },
    "configs": {
        "config_errors": "config",
        "check_config": "config",
    },
    "shares": {
        "apportion": "total, weights",
        "legal_costs": "claims, claimant_paid, respondent_paid",
        "distribute": "estate, claims",
    },
    "accrual": {
        "interest_on": "amount, rate, days",
        "days_until": "amount, rate, target",
    },
    "enforcement": {
        "enforcement_step": "account, status, step",
    },
    "accounts": {
        "balances_after": "transfers",
        "net_debts": "debts",
    },
    "cases": {
        "flaw": "config, case",
        "findings_of": "case, claim",
        "claim_winner": "config, case, claim",
        "adverse_issues": "config, case, party",
        "nameable_issues": "config, case, party",
    },
    "standing": {
        "periods_of": "config, case",
        "may_appeal": "config, case, day, party",
        "may_still_appeal": "config, case, day, party",
        "is_done": "config, case, day, party",
        "may_be_opposed": "config, case, day",
        "may_still_be_opposed": "config, case, day",
    },
    "reversals": {
        "issue_costs": "config, case, day, claim, *, up_to=None",
        "reversal_cost": "config, case, day, claim, party, *, up_to=None",
        "costs_by_level": "config, case, day, claim, party",
        "is_final": "config, case, day, claim",
        "current_grounds": "config, case, day, claim",
    },
    "filings": {
        "processed": "config, case, day, filing",
        "contrary_votes": "config, case, day, filing, claim",
    },
    "complaints": {
        "opened": "config, precedents, number, day, complaint",
    },
    "paths": {
        "next_filing": "config, case, day, claim, party, *, up_to=None",
        "reversal_path": "config, case, day, claim, party, *, up_to=None",
        "judge_path": "config, case, claim, filings",
    },
    "reports": {
        "amount_due": "config, case, day, claim",
        "case_costs": "config, case",
        "all_debts": "config, cases, day",
        "estate_of": "config, cases, day, person, amount",
        "balance_of": "cases, person",
        "final_claims": "config, cases, day",
    },
}
# For each class its module, its methods with their arguments, and its properties.
CLASSES = {
    "Docket": (
        "dockets",
        {
            "__init__": "self, config",
            "__len__": "self",
            "__iter__": "self",
            "file": "self, day, filing",
            "rehearse": "self, filings",
            "undo": "self, many=1",
            "clone": "self",
        },
        ("config", "day", "cases", "precedents", "transfers", "log"),
    ),
    "Registry": (
        "registries",
        {
            "__init__": "self, config",
            "__len__": "self",
            "__iter__": "self",
            "submit": "self, submissions",
            "undo": "self, many=1",
        },
        ("config", "day", "cases", "precedents", "transfers", "watermarks", "pending", "log"),
    ),
}
ERRORS = (
    "OverturnError",
    "CauseError",
    "TwoWays",
    "BadConfig",
    "NotReversible",
    "DayPassed",
    "NothingToUndo",
)


class Interface(ExactCase):

    def test_each_function_is_defined_in_its_file_with_its_arguments(self):
        for module, functions in INTERFACE.items():
            found = importlib.import_module(f"overturn.{module}")
            for name, arguments in functions.items():
                function = getattr(found, name)
                self.assertTrue(inspect.isfunction(function), name)
                self.assertExact(function.__module__, f"overturn.{module}", name)
                self.assertExact(str(inspect.signature(function)), f"({arguments})", name)

    def test_only_each_ground_is_a_generator(self):
        found = [
            name
            for module, functions in INTERFACE.items() for name in functions
            if inspect.isgeneratorfunction(getattr(importlib.import_module(f"overturn.{module}"), name))
        ]
        self.assertExact(found, ["each_ground"])

    def test_each_class_has_its_methods_and_properties_itself(self):
        for name, (module, methods, properties) in CLASSES.items():
            found = getattr(importlib.import_module(f"overturn.{module}"), name)
            self.assertTrue(inspect.isclass(found), name)
            self.assertExact(found.__module__, f"overturn.{module}", name)
            for method, arguments in methods.items():
                function = vars(found)[method]
                self.assertTrue(inspect.isfunction(function), method)
                self.assertFalse(inspect.isgeneratorfunction(function), method)
                self.assertExact(str(inspect.signature(function)), f"({arguments})", method)
            for told in properties:
                self.assertIsInstance(vars(found)[told], property, told)

    def test_replayed_is_a_class_method(self):
        found = importlib.import_module("overturn.dockets").Docket
        self.assertIsInstance(vars(found)["replayed"], classmethod)
        self.assertExact(str(inspect.signature(found.replayed)), "(config, log)")

    def test_each_error_is_defined_in_its_file(self):
        found = importlib.import_module("overturn.errors")
        for name in ERRORS:
            error = getattr(found, name)
            self.assertTrue(inspect.isclass(error), name)
            self.assertExact(error.__module__, "overturn.errors", name)


if __name__ == "__main__":
    unittest.main()
