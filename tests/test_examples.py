"""The examples of the interface, as they stand in the document."""

import doctest
import unittest

CALENDARS = """
>>> from overturn.calendars import business_day_after, count_business_days, is_business_day, next_business_day, previous_business_day
>>> calendar = ("0111110", (8,))
>>> is_business_day(calendar, 7), is_business_day(calendar, 8), is_business_day(calendar, 9)
(False, False, True)
>>> next_business_day(calendar, 6), previous_business_day(calendar, 8), previous_business_day(calendar, 0)
(9, 5, None)
>>> count_business_days(calendar, 5, 10), business_day_after(calendar, 7, 2), business_day_after(calendar, 7, 0)
(2, 10, 7)
"""

STAYS = """
>>> from overturn.stays import count_stayed_days, is_stayed, normal_stays
>>> normal_stays(((5, 6), (9, 3), (7, 7), (1, 2), (2, 3))), normal_stays(((6, 6), (4, 4)))
(((1, 3), (5, 7)), ((4, 4), (6, 6)))
>>> count_stayed_days(((1, 3), (2, 5)), 1, 4), is_stayed(((1, 3), (2, 5)), 1)
(3, True)
"""

TERMS = """
>>> from overturn.terms import count_counting_days, latest_start, term_end
>>> calendar = ("0111110", ())
>>> term_end(calendar, ((10, 10),), "calendar", 8, 3), term_end(calendar, ((10, 10),), "calendar", 8, 4)
(12, 15)
>>> term_end(calendar, ((10, 10),), "business", 8, 4), count_counting_days(calendar, ((10, 10),), "calendar", 8, 15)
(15, 6)
>>> latest_start(calendar, ((10, 10),), "calendar", 3, 12), latest_start(calendar, (), "business", 6, 6)
(8, None)
"""

SERVICE = """
>>> from overturn.service import decisive_attempts, effect_day, service_day
>>> rules = ("1111111", (), 5, 9, 3, 7, 4)
>>> attempts = ((4, "post", True), (5, "post", False), (9, "hand", False))
>>> service_day(rules, attempts), decisive_attempts(rules, attempts), effect_day(rules, (4, "post", True))
(8, (1,), 7)
>>> decisive_attempts(rules, ((6, "post", False), (9, "hand", False))), service_day(rules, ())
((), None)
"""

PERIODS = """
>>> from overturn.periods import changing_events, clock_after, own_end, period_end
>>> own_end(rules, "calendar", 4, (10, (), (), None)), changing_events(rules, "calendar", 4, (10, (), (), None), 15)
(19, (('attempt', 'hand'), ('stay', 19, 19)))
>>> clock = (10, ((11, "hand", False),), ((16, 17),), 14)
>>> own_end(rules, "calendar", 4, clock), period_end(rules, "calendar", 4, clock)
(15, 21)
>>> changing_events(rules, "calendar", 4, clock, 18), changing_events(rules, "calendar", 4, clock, 22)
((('stay', 21, 21),), None)
>>> clock_after(rules, "calendar", 4, clock, 18, ("stay", 21, 21))
(10, ((11, 'hand', False),), ((16, 17), (21, 21)), 14)
"""

INTAKE = """
>>> from overturn.intake import admissible_stamps, awaited_stamp, new_queue, rejection, submitted
>>> first = submitted(new_queue(2), (5, 0, 1))
>>> first
(None, (), (((1, 5), (0, 0)), ((5, 0, 1),)))
>>> second = submitted(first[2], (4, 1, 2))
>>> second[2], awaited_stamp(second[2])
((((1, 5), (0, 0)), ((4, 1, 2), (5, 0, 1))), (0, 1, 1))
>>> third = submitted(second[2], (3, 1, 1))
>>> third
(None, ((3, 1, 1), (4, 1, 2)), (((1, 5), (2, 4)), ((5, 0, 1),)))
>>> admissible_stamps(third[2]), submitted(third[2], (6, 1, 3))[1], rejection(third[2], (5, 0, 1)), rejection(third[2], (3, 1, 3))
(((5, 0, 2), (4, 1, 3)), ((5, 0, 1),), 'duplicate', 'day out of order')
"""

READER = """
>>> from overturn.reader import read_cause
>>> read_cause("( a! unless b*)")
('unless', ('issue', 'a', True, 0), ('issue', 'b', False, 2))
"""

PRINTER = """
>>> from overturn.printer import show_cause
>>> show_cause(("unless", ("issue", "a", True, 0), ("issue", "b", False, 2)))
'(a! unless b*)'
"""

CAUSES = """
>>> from overturn.causes import depth_of, issues_of, value_of, winner_by
>>> cause = read_cause("((a and b+) unless (c! unless d*))")
>>> issues_of(cause)
(('a', False, 0, 'claimant'), ('b', False, 1, 'claimant'), ('c', True, 0, 'respondent'), ('d', False, 2, 'claimant'))
>>> depth_of(cause), value_of(cause, "11?1"), winner_by(cause, "?0??"), winner_by(cause, "111?")
(2, True, 'respondent', None)
"""

RELEVANCE = """
>>> from overturn.relevance import least_rulings, relevant_issues, stalling_finding
>>> cause = read_cause("(a and (b or c))")
>>> relevant_issues(cause, "1??"), least_rulings(cause, "1??", "claimant"), least_rulings(cause, "1??", "respondent")
((1, 2), 1, 2)
>>> relevant_issues(cause, "0??"), least_rulings(cause, "0??", "claimant"), least_rulings(cause, "0??", "respondent")
((), None, 0)
>>> stalling_finding(cause, "???", 0), stalling_finding(cause, "???", 1), stalling_finding(cause, "?0?", 2)
(True, False, True)
"""

COSTS = """
>>> from overturn.costs import assignment_cost, least_cost
>>> cause = read_cause("(a and (b or c))")
>>> least_cost(cause, ((0, 3), (2, 0), (2, 0)), "claimant"), least_cost(cause, ((0, 3), (2, 0), (2, 0)), "respondent")
((2, '11?'), (0, '?00'))
>>> least_cost(cause, ((0, 3), (None, 0), (None, 0)), "claimant"), assignment_cost(((0, 3), (None, 0), (2, 5)), "0?0")
((None, None), 8)
"""

GROUNDS = """
>>> from overturn.grounds import count_grounds, each_ground, ground_at, ground_number, supports
>>> cause = read_cause("((a or b) and (c or d))")
>>> list(each_ground(cause, "claimant")), list(each_ground(cause, "respondent"))
(['1?1?', '1??1', '?11?', '?1?1'], ['00??', '??00'])
>>> count_grounds(cause, "claimant"), ground_at(cause, "claimant", 2), ground_at(cause, "claimant", 4)
(4, '?11?', None)
>>> ground_number(cause, "claimant", "?1?1"), ground_number(cause, "claimant", "11?1"), supports("11?1", "?1?1")
(3, None, True)
"""

PACKINGS = """
>>> from overturn.packings import check_certificate, merged, packing_for, total_weight
>>> costs = ((0, 3), (0, 2), (0, 4), (0, None))
>>> packing = packing_for(cause, costs, "claimant")
>>> packing, total_weight(packing)
((('1?1?', 3), ('?11?', 1), ('?1?1', 1)), 5)
>>> check_certificate(cause, costs, "claimant", packing, "00??"), check_certificate(cause, costs, "claimant", packing, "??00")
(True, False)
>>> merged((("1???", None), ("?1??", 2)), (("??1?", 4), ("???1", None)))
(('1?1?', 4), ('1??1', None))
"""

COURTS = """
>>> from overturn.courts import appeal_chain, common_superior, subordinates
>>> top = (None, 1, 1, True, 0, 5, False, 0)
>>> courts = (top, (0,) + top[1:], (0,) + top[1:], (1,) + top[1:], (2,) + top[1:])
>>> appeal_chain(courts, 3), common_superior(courts, 3, 4), common_superior(courts, 3, 1), subordinates(courts, 1)
((3, 1, 0), 0, 1, (1, 3))
"""

JURISDICTION = """
>>> from overturn.jurisdiction import applicable_rules, competent_court, first_gap, first_overlap
>>> split = (((0, 1, 2, 3), 0, 999, 2), ((0,), 1000, None, 1))
>>> applicable_rules(split, 0, 999), competent_court(split, 0, 1000), first_gap(split), first_overlap(split)
((0,), 1, (1, 1000), None)
>>> first_overlap((((0, 1, 2, 3), 0, None, 2), ((3,), 500, 600, 1))), first_gap((((0, 1, 2, 3), 0, 100000, 2),))
((3, 500), (0, 100001))
"""

VOTING = """
>>> from overturn.voting import agreeing_votes, count_votes, least_agreeing, votes_needed
>>> votes_needed(4, 0), votes_needed(5, 1), votes_needed(3, 2)
((3, 2), (4, 2), (3, 1))
>>> count_votes(1, "11010", True), count_votes(0, "", None)
((False, 2), (False, 0))
>>> least_agreeing(9, 1, 2), least_agreeing(3, 0, 3), agreeing_votes(3, 0, 3), agreeing_votes(5, 1, 2)
(3, 0, ('011', '101', '110'), ('01111', '10111'))
"""

PRECEDENTS = """
>>> from overturn.precedents import controlling_precedent, distinguished, record_precedent
>>> precedents = ((0, 0, 1, 2, 1, True, ()), (1, 0, 1, 2, 0, False, (4, 7)), (2, 0, 1, 2, 1, False, (4,)), (3, 0, 1, 2, 3, True, ()))
>>> controlling_precedent((2, 1, 0), precedents, 2, 1, ()), distinguished((2, 1, 0), precedents, 2, 1, ())
((1, True), ((1, (4, 7)), (2, (4,))))
>>> controlling_precedent((2, 1, 0), precedents, 2, 1, (4,)), controlling_precedent((2, 1, 0), precedents, 2, 1, (4, 7))
((1, False), (2, False))
>>> record_precedent(precedents[:2], (0, 0, 1, 2, 0, False, ()))
((1, 0, 1, 2, 0, False, (4, 7)), (0, 0, 1, 2, 0, False, ()))
"""

REVIEW = """
>>> from overturn.review import cheapest_rulings, is_allowed, needed_at, review_path
>>> courts = ((None, 5, 9, False, 0, 5, False, 0), (0, 3, 5, True, 0, 5, False, 0), (1, 1, 1, True, 0, 5, False, 0))
>>> matter = (True, 0, 500, (2, True))
>>> review_path(courts, (2, 1, 0), matter, 1, 9), review_path(courts, (2, 1, 0), matter, 1, 1)
(((1, 2), 2, 5), ((1,), 2, None))
>>> needed_at(courts[1], matter, 1), needed_at(courts[0], matter, 2), is_allowed(courts[0], matter, 2, "00000")
((2, None), (3, 5), False)
>>> cheapest_rulings(courts, (2, 1, 0), matter, True, 1, 9), cheapest_rulings(courts, (2, 1, 0), matter, True, 1, 1)
(('111', '000001111'), None)
>>> review_path(courts, (2, 1, 0), (False, 0, 500, None), 1, 9)
((1,), 2, 2)
"""

CONFIGS = """
>>> from overturn.configs import config_errors
>>> config_errors((rules, 1, 0, ((0, 3, 1, True, 0, 5, False, 0),), (cause,), (((0,), 5, None, 1),)))
(('superior', 0), ('bench', 0), ('court', 0))
>>> config_errors((rules, 1, 0, (top,), (cause,), (((0,), 5, None, 0),)))
(('gap', (0, 0)),)
"""

SHARES = """
>>> from overturn.shares import apportion, distribute, legal_costs
>>> apportion(10, (6, 6, 2)), apportion(11, (6, 6, 2)), apportion(5, (0, 0))
((4, 4, 2), (5, 5, 1), (0, 0))
>>> legal_costs(((100, "claimant"), (50, "respondent"), (70, None)), 10, 5), legal_costs((), 3, 0)
((5, 10, -5), (3, 0, 0))
>>> distribute(14, ((3, 6), (1, 4), (3, 2), (3, 6))), distribute(15, ((3, 6), (1, 4), (3, 2), (3, 6)))
((4, 4, 2, 4), (5, 4, 1, 5))
"""

ACCRUAL = """
>>> from overturn.accrual import days_until, interest_on
>>> interest_on(10000, 500, 365), interest_on(10000, 500, 364), days_until(10000, 500, 500), days_until(10000, 0, 1)
(500, 498, 365, None)
"""

POINT_3 = """
>>> from overturn.dockets import Docket
>>> from overturn.paths import reversal_path
>>> from overturn.reader import read_cause
>>> from overturn.reversals import reversal_cost
>>> high = (None, 5, 9, False, 50, 14, False, 10)
>>> middle = (0, 3, 9, True, 0, 14, False, 5)
>>> low = (1, 1, 1, True, 0, 14, False, 1)
>>> rules = ("1111111", (), 7, 30, 3, 14, 10)
>>> cause = read_cause("((a and (b+ or c!)) unless d)")
>>> config = (rules, 1, 1000, (high, middle, low), (cause,), (((0, 1, 2, 3), 0, None, 2),))
>>> docket = Docket(config)
>>> docket.file(0, ("complaint", 0, (), 1, 2, ((0, 100),)))
(None, (0, 2))
>>> docket.file(0, ("answer", 0)), docket.file(0, ("ruling", 0, 0, 0, "1", ()))
((None, ()), (None, (1,)))
>>> docket.file(0, ("ruling", 0, 0, 1, "1", ())), docket.file(0, ("ruling", 0, 0, 3, "0", ()))
((None, (1,)), (None, (0,)))
>>> case = docket.cases[0]
>>> reversal_cost(config, case, 0, 0, "respondent")
(2, '0???')
>>> reversal_path(config, case, 0, 0, "respondent")
(('appeal', 0, 'respondent', ((0, 0),)), ('hearing', 0), ('ruling', 0, 0, 0, '001', ()))
"""

ENFORCEMENT = """
>>> from overturn.enforcement import enforcement_step
>>> enforcement_step((0, 0), (None, True, False), ("deposit", 12)), enforcement_step((0, 12), ("claimant", True, False), ("enforce", 10))
((None, 12, (0, 12)), (None, 10, (10, 12)))
>>> enforcement_step((10, 12), ("claimant", True, False), ("release",)), enforcement_step((10, 12), ("respondent", True, False), ("restitute",))
(('required', 0, (10, 12)), (None, 10, (0, 2)))
"""

ACCOUNTS = """
>>> from overturn.accounts import balances_after, net_debts
>>> balances_after(((0, 1, 5), (1, None, 3), (None, 0, 3), (2, 2, 9)))
((0, -2), (1, 2), (2, 0))
>>> net_debts(((1, 0, 5), (0, 1, 7), (2, 2, 9), (0, 2, 1), (1, 2, 4), (0, 2, 2), (2, 1, 4)))
((0, 1, 2), (0, 2, 3))
"""

CASES = """
>>> from overturn.cases import adverse_issues, claim_winner, findings_of, flaw, nameable_issues
>>> case
(0, 0, 0, (), (1, 2), (2, 1, 0), True, (), (), True, (1, 0), ((0, 100, (0, 0), (('1', False, None, False), ('1', False, None, False), ('?', False, None, False), ('0', False, None, False))),), 0, ('judged', 0, ((), ()), (None, None), None))
>>> findings_of(case, 0), claim_winner(config, case, 0)
('11?0', 'claimant')
>>> adverse_issues(config, case, "respondent"), nameable_issues(config, case, "claimant")
(((0, 0), (0, 1), (0, 3)), ())
>>> flaw(config, case), flaw(config, case[:12] + (3,) + case[13:]), flaw(config, case[:9] + (False,) + case[10:])
(None, 'level', 'ever judged')
"""

STANDING = """
>>> from overturn.standing import is_done, may_appeal, may_be_opposed, may_still_appeal, periods_of
>>> periods_of(config, case), may_appeal(config, case, 30, "respondent"), may_still_appeal(config, case, 31, "respondent")
(((30, 30), (30, 30)), True, False)
>>> may_appeal(config, case, 0, "claimant"), is_done(config, case, 0, "claimant"), is_done(config, case, 0, "respondent"), may_be_opposed(config, case, 0)
(False, True, False, False)
"""

REVERSALS = """
>>> from overturn.reversals import costs_by_level, current_grounds, is_final, issue_costs, reversal_cost
>>> issue_costs(config, case, 0, 0), issue_costs(config, case, 0, 0, up_to=0)
(((0, 2), (0, 2), (0, 0), (2, 0)), ((0, None), (0, None), (0, 0), (None, 0)))
>>> reversal_cost(config, case, 0, 0, "respondent", up_to=0), reversal_cost(config, case, 0, 0, "claimant", up_to=0)
((None, None), (0, '11?0'))
>>> costs_by_level(config, case, 0, 0, "respondent"), current_grounds(config, case, 0, 0)
((None, 2, 2), (('11?0', 2),))
>>> is_final(config, case, 30, 0), is_final(config, case, 31, 0), current_grounds(config, case, 31, 0)
(False, True, (('11?0', None),))
"""

FILINGS = """
>>> from overturn.filings import contrary_votes, processed
>>> appealed = processed(config, case, 1, ("appeal", 0, "respondent", ((0, 0),)))
>>> appealed[:2], appealed[2][13]
((None, (1,)), ('judged', 0, ((), ()), (None, ((0, 0),)), 1))
>>> heard = processed(config, appealed[2], 1, ("hearing", 0))
>>> heard[:2], heard[2][12:]
((None, (1,)), (1, ('deliberating', ((0, 0),))))
>>> heard[2][11][0][3]
(('1', False, None, False), ('1', True, None, False), ('?', False, None, False), ('0', True, None, False))
>>> processed(config, heard[2], 1, ("ruling", 0, 0, 0, "01", ()))[:2]
('bench', ())
>>> ruled = processed(config, heard[2], 1, ("ruling", 0, 0, 0, "010", ()))
>>> ruled[:2], ruled[2][12:], contrary_votes(config, heard[2], 1, ("ruling", 0, 0, 0, "010", ()), 0)
((None, (0,)), (1, ('judged', 1, ((), ()), (None, None), None)), 2)
>>> is_final(config, ruled[2], 1, 0)
True

>>> plain = (rules, 1, 1000, (high, middle, low), (read_cause("(a and b)"),), (((0, 1, 2, 3), 0, None, 2),))
>>> room = Docket.replayed(plain, ((0, ("complaint", 0, (), 1, 2, ((0, 100),))), (0, ("ruling", 0, 0, 0, "0", ()))))
>>> room.file(0, ("appeal", 0, "claimant", ((0, 0),))), room.file(0, ("hearing", 0)), room.file(0, ("ruling", 0, 0, 0, "110", ()))
((None, (1,)), (None, (1,)), (None, (1,)))
>>> room.cases[0][12:], room.file(0, ("ruling", 0, 0, 1, "1", ()))
((1, ('deliberating', ())), (None, (1,)))
>>> room.cases[0][12:]
(1, ('judged', 0, ((), ()), (None, None), None))
"""

COMPLAINTS = """
>>> from overturn.complaints import opened
>>> opened(config, (), 6, 0, ("complaint", 0, (), 1, 1, ((5, 100),))), opened(config, (), 0, 0, ("complaint", 0, (), 1, 1, ((5, 100),)))
(('many', (), None), ('same', (), None))
>>> known = opened(config, ((0, 0, 2, 0, 1, True, (4,)),), 1, 3, ("complaint", 0, (4, 5), 1, 2, ((0, 100),)))
>>> known[:2], findings_of(known[2], 0), known[2][11][0][3][2], known[2][12:]
((None, (1, 2)), '??1?', ('1', False, (1, True), False), (0, ('deliberating', ())))
"""

DOCKETS = """
>>> room.day, len(room), room.transfers, room.precedents
(0, 1, ((1, None, 1), (1, None, 5)), ())
>>> room.rehearse(((1, ("appeal", 0, "respondent", ((0, 1),))), (1, ("waive", 0, "respondent")), (1, ("answer", 1)), (2, ("heartbeat",))))
(('cannot', ()), (None, ()), ('no case', ()), (None, ()))
>>> room.day, len(room.log), room.undo(2), len(room.log)
(0, 6, ((0, ('ruling', 0, 0, 0, '110', ())), (0, ('ruling', 0, 0, 1, '1', ()))), 4)
>>> room.file(0, ("ruling", 0, 0, 0, "11", ())), room.file(0, ("ruling", 0, 0, 0, "100", ())), len(room.log)
(('bench', ()), (None, (0,)), 6)
"""

PATHS = """
>>> from overturn.paths import judge_path, next_filing
>>> path = reversal_path(config, case, 0, 0, "respondent")
>>> judge_path(config, case, 0, ((0, path[0]), (0, path[1]), (0, path[2])))
(((None, 0), (None, 0), (None, 2)), 'respondent', 1)
>>> next_filing(config, case, 0, 0, "respondent", up_to=0), reversal_path(config, case, 0, 0, "claimant")
(None, ())
>>> reversal_path(config, known[2], 3, 0, "respondent")
(('ruling', 1, 0, 0, '0', ()),)
"""

REPORTS = """
>>> from overturn.reports import all_debts, amount_due, balance_of, case_costs, estate_of, final_claims
>>> amount_due(config, case, 365, 0), case_costs(config, case), balance_of((case,), 1)
(110, (0, 1, -1), -1)
>>> all_debts(config, (case,), 365), estate_of(config, (case,), 365, 2, 60), final_claims(config, (case,), 31)
(((2, 1, 111),), ((0, 0, 60),), ((0, 0),))
"""

REGISTRIES = """
>>> from overturn.registries import Registry
>>> desk = Registry((rules, 2) + config[2:])
>>> desk.submit(((0, 0, 1, ("complaint", 0, (), 1, 2, ((0, 100),))), (1, 1, 1, ("heartbeat",))))
(((0, 0, 1, None, (0, 2)),), ())
>>> desk.submit(((2, 0, 3, ("answer", 0)), (1, 0, 2, ("answer", 0)), (1, 0, 2, ("heartbeat",))))
((), ((1, 0, 2, None, ()), (1, 1, 1, None, ())), 'duplicate')
>>> desk.watermarks, desk.pending, desk.day, len(desk)
(((3, 2), (1, 1)), ((2, 0, 3, ('answer', 0)),), 1, 3)
>>> desk.submit(((2, 1, 2, ("heartbeat",)),)), desk.undo()
((((2, 0, 3, 'answered', ()),),), ((2, 1, 2, ('heartbeat',)),))
>>> desk.day, list(desk)[-1]
(1, (1, 1, 1, None, ()))
"""


class Examples(unittest.TestCase):

    def check(self, *texts):
        """Run the examples one after another; the later ones see the names of the earlier ones."""
        test = doctest.DocTestParser().get_doctest("".join(texts), {}, self.id(), None, 0)
        report = []
        outcome = doctest.DocTestRunner(verbose=False).run(test, out=report.append)
        self.assertGreater(outcome.attempted, 0)
        self.assertEqual(outcome.failed, 0, "".join(report))

    def test_calendars(self):
        self.check(CALENDARS)

    def test_stays(self):
        self.check(STAYS)

    def test_terms(self):
        self.check(TERMS)

    def test_service(self):
        self.check(SERVICE)

    def test_periods(self):
        self.check(SERVICE, PERIODS)

    def test_intake(self):
        self.check(INTAKE)

    def test_reader(self):
        self.check(READER)

    def test_printer(self):
        self.check(PRINTER)

    def test_causes(self):
        self.check(READER, CAUSES)

    def test_relevance(self):
        self.check(READER, RELEVANCE)

    def test_costs(self):
        self.check(READER, COSTS)

    def test_grounds(self):
        self.check(READER, GROUNDS)

    def test_packings(self):
        self.check(READER, GROUNDS, PACKINGS)

    def test_courts(self):
        self.check(COURTS)

    def test_jurisdiction(self):
        self.check(JURISDICTION)

    def test_voting(self):
        self.check(VOTING)

    def test_precedents(self):
        self.check(PRECEDENTS)

    def test_review(self):
        self.check(REVIEW)

    def test_configs(self):
        self.check(SERVICE, READER, GROUNDS, COURTS, CONFIGS)

    def test_shares(self):
        self.check(SHARES)

    def test_accrual(self):
        self.check(ACCRUAL)

    def test_point_3(self):
        self.check(POINT_3)

    def test_enforcement(self):
        self.check(ENFORCEMENT)

    def test_accounts(self):
        self.check(ACCOUNTS)

    def test_cases(self):
        self.check(POINT_3, CASES)

    def test_standing(self):
        self.check(POINT_3, STANDING)

    def test_reversals(self):
        self.check(POINT_3, REVERSALS)

    def test_filings(self):
        self.check(POINT_3, REVERSALS, FILINGS)

    def test_complaints(self):
        self.check(POINT_3, CASES, COMPLAINTS)

    def test_dockets(self):
        self.check(POINT_3, REVERSALS, FILINGS, DOCKETS)

    def test_paths(self):
        self.check(POINT_3, CASES, COMPLAINTS, PATHS)

    def test_reports(self):
        self.check(POINT_3, REPORTS)

    def test_registries(self):
        self.check(POINT_3, REGISTRIES)

    def test_all_of_the_document_one_after_another(self):
        self.check(
            POINT_3, CALENDARS, STAYS, TERMS, SERVICE, PERIODS, INTAKE, READER, PRINTER, CAUSES,
            RELEVANCE, COSTS, GROUNDS, PACKINGS, COURTS, JURISDICTION, VOTING, PRECEDENTS, REVIEW,
            CONFIGS, SHARES, ACCRUAL, ENFORCEMENT, ACCOUNTS, CASES, STANDING, REVERSALS, FILINGS,
            COMPLAINTS, DOCKETS, PATHS, REPORTS, REGISTRIES,
        )


if __name__ == "__main__":
    unittest.main()
