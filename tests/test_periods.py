"""Points 50, 51 and 52: appeal periods."""

import random
import unittest

from days import (
    effect_by_definition, own_by_definition, period_by_definition, service_by_definition,
    term_end_by_definition,
)
from drawing import draw_clock, draw_event, draw_rules
from exact import ExactCase
from overturn.periods import changing_events, clock_after, is_permitted, own_end, period_end

KINDS = ("calendar", "business")
EVERY_DAY = ("1111111", (), 5, 9, 3, 7, 4)
WORKDAYS = ("0111110", (), 5, 9, 3, 7, 4)
SERVED = ((11, "hand", False),)


def is_permitted_by_definition(rules, kind, days, clock, day, event):
    attempts = clock[1]
    if event[0] == "attempt":
        return not day > own_by_definition(rules, kind, days, clock)
    if event[0] == "stay":
        return not event[1] < day
    existing = [one for number, one in enumerate(attempts) if number == event[1]]
    postal = [one for one in existing if one[1] == "post" and one[2] is False]
    return any(effect_by_definition(rules, one) > day for one in postal)


class PeriodCase(ExactCase):

    def drawn(self, seed, many):
        draw = random.Random(seed)
        for _ in range(many):
            span = draw.choice((20, 60))
            rules, clock = draw_rules(draw, span), draw_clock(draw, span)
            rules = rules[:2] + (draw.randint(1, 12), draw.randint(1, 40)) + rules[4:]
            yield draw, rules, draw.choice(KINDS), draw.randint(1, 20), clock


class Ends(PeriodCase):

    def test_own_period_behind_service(self):
        self.assertExact(own_end(EVERY_DAY, "calendar", 4, (10, SERVED, (), None)), 15)
        self.assertExact(own_end(WORKDAYS, "business", 4, (10, SERVED, (), None)), 17)
        self.assertExact(own_end(WORKDAYS, "calendar", 4, (10, SERVED, ((15, 15),), None)), 16)

    def test_the_day_of_the_judgment_does_not_matter_behind_service(self):
        for judgment_day in (0, 11, 300):
            self.assertExact(own_end(EVERY_DAY, "calendar", 4, (judgment_day, SERVED, (), None)), 15)

    def test_long_stop_whatever_the_calendar_and_the_stays(self):
        for rules in (EVERY_DAY, WORKDAYS, ("0000001", (19, 20)) + EVERY_DAY[2:]):
            for stays in ((), ((0, 100),), ((20, 20),)):
                for attempts in ((), ((3, "hand", True),)):
                    clock = (11, attempts, stays, None)
                    self.assertExact(own_end(rules, "business", 4, clock), 20)
                    self.assertExact(period_end(rules, "business", 4, clock), 20)

    def test_cross_appeal_term_is_of_the_kind_calendar(self):
        clock = (10, SERVED, (), 14)
        self.assertExact(own_end(WORKDAYS, "business", 4, clock), 17)
        self.assertExact(period_end(WORKDAYS, "business", 4, clock), 19)
        clock = (10, SERVED, ((16, 17),), 14)
        self.assertExact(period_end(WORKDAYS, "business", 2, clock), 22)

    def test_a_cross_appeal_term_that_ends_earlier(self):
        clock = (10, SERVED, (), 2)
        self.assertExact(period_end(EVERY_DAY, "calendar", 4, clock), 15)
        self.assertExact(period_end(EVERY_DAY, "calendar", 4, (10, (), (), 2)), 19)

    def test_no_first_appeal(self):
        clock = (10, SERVED, (), None)
        self.assertExact(period_end(EVERY_DAY, "calendar", 4, clock), 15)

    def test_first_appeal_on_day_0(self):
        self.assertExact(period_end(EVERY_DAY, "calendar", 1, (0, ((0, "hand", False),), (), 0)), 5)

    def test_no_order_is_required_among_the_days(self):
        clock = (40, ((2, "hand", False),), (), 20)
        self.assertExact(own_end(EVERY_DAY, "calendar", 4, clock), 6)
        self.assertExact(period_end(EVERY_DAY, "calendar", 4, clock), 25)

    def test_days_behind_400(self):
        self.assertExact(own_end(EVERY_DAY, "calendar", 4, (500, (), (), None)), 509)
        clock = (500, ((500, "notice", False),), ((508, 509),), 508)
        self.assertExact(own_end(EVERY_DAY, "calendar", 4, clock), 513)
        self.assertExact(period_end(EVERY_DAY, "calendar", 4, clock), 514)

    def test_drawn_clocks(self):
        for _, rules, kind, days, clock in self.drawn(50, 600):
            expected = own_by_definition(rules, kind, days, clock)
            self.assertExact(own_end(rules, kind, days, clock), expected, (rules, kind, days, clock))
            expected = period_by_definition(rules, kind, days, clock)
            self.assertExact(period_end(rules, kind, days, clock), expected, (rules, kind, days, clock))


class Events(PeriodCase):

    def permitted(self, clock, day, event, rules=EVERY_DAY):
        found = is_permitted(rules, "calendar", 4, clock, day, event)
        if not found:
            self.assertExact(clock_after(rules, "calendar", 4, clock, day, event), clock)
        return found

    def test_an_attempt_until_the_own_period_has_expired(self):
        clock = (10, SERVED, (), None)
        self.assertExact(self.permitted(clock, 15, ("attempt", "notice")), True)
        self.assertExact(self.permitted(clock, 16, ("attempt", "notice")), False)

    def test_a_cross_appeal_term_does_not_permit_an_attempt(self):
        clock = (10, SERVED, (), 14)
        self.assertExact(self.permitted(clock, 15, ("attempt", "hand")), True)
        self.assertExact(self.permitted(clock, 16, ("attempt", "hand")), False)

    def test_a_return_needs_a_postal_attempt_that_has_not_taken_effect(self):
        clock = (10, ((11, "hand", False), (11, "post", False), (11, "post", True)), (), None)
        self.assertExact(self.permitted(clock, 13, ("return", 1)), True)
        self.assertExact(self.permitted(clock, 14, ("return", 1)), False)
        self.assertExact(self.permitted(clock, 0, ("return", 0)), False)
        self.assertExact(self.permitted(clock, 0, ("return", 2)), False)

    def test_a_return_of_a_notice(self):
        self.assertExact(self.permitted((10, ((11, "notice", False),), (), None), 11, ("return", 0)), False)

    def test_returns_of_attempts_that_there_are_not(self):
        for number in range(10):
            self.assertExact(self.permitted((10, (), (), None), 0, ("return", number)), False)
        clock = (10, ((11, "post", False),) * 6, (), None)
        found = [self.permitted(clock, 0, ("return", number)) for number in range(10)]
        self.assertExact(found, [True] * 6 + [False] * 4)

    def test_a_stay_from_the_day_of_the_event_on(self):
        clock = (10, SERVED, (), None)
        self.assertExact(self.permitted(clock, 12, ("stay", 12, 13)), True)
        self.assertExact(self.permitted(clock, 13, ("stay", 12, 13)), False)
        self.assertExact(self.permitted(clock, 100, ("stay", 100, 13)), True)

    def test_the_clock_behind_an_event(self):
        attempts = ((11, "hand", False), (11, "post", False), (12, "notice", True))
        clock = (10, attempts, ((3, 4),), 14)
        behind = clock_after(EVERY_DAY, "calendar", 4, clock, 12, ("attempt", "post"))
        self.assertExact(behind, (10, attempts + ((12, "post", False),), ((3, 4),), 14))
        behind = clock_after(EVERY_DAY, "calendar", 4, clock, 12, ("return", 1))
        returned = (attempts[0], (11, "post", True), attempts[2])
        self.assertExact(behind, (10, returned, ((3, 4),), 14))
        behind = clock_after(EVERY_DAY, "calendar", 4, clock, 12, ("stay", 12, 12))
        self.assertExact(behind, (10, attempts, ((3, 4), (12, 12)), 14))

    def test_an_empty_stay_is_added_too(self):
        clock = (10, SERVED, (), None)
        behind = clock_after(EVERY_DAY, "calendar", 4, clock, 12, ("stay", 15, 14))
        self.assertExact(behind, (10, SERVED, ((15, 14),), None))
        self.assertExact(period_end(EVERY_DAY, "calendar", 4, behind), 15)

    def test_an_end_may_move_to_an_earlier_day(self):
        clock = (10, (), (), None)
        behind = clock_after(EVERY_DAY, "calendar", 4, clock, 11, ("attempt", "hand"))
        self.assertExact((own_end(EVERY_DAY, "calendar", 4, clock), own_end(EVERY_DAY, "calendar", 4, behind)), (19, 15))

    def test_a_clock_that_is_longer_than_a_bound_is_passed_back_in(self):
        clock = (10, (), (), None)
        for day in range(10, 18):
            clock = clock_after(EVERY_DAY, "calendar", 30, clock, day, ("attempt", "post"))
            clock = clock_after(EVERY_DAY, "calendar", 30, clock, day, ("stay", day, day))
        self.assertExact((len(clock[1]), len(clock[2])), (8, 8))
        self.assertExact(period_end(EVERY_DAY, "calendar", 30, clock), 10 + 3 + 30 + 4)
        self.assertExact(is_permitted(EVERY_DAY, "calendar", 30, clock, 17, ("return", 7)), True)

    def test_drawn_events(self):
        for draw, rules, kind, days, clock in self.drawn(51, 500):
            for _ in range(6):
                day = draw.randint(0, 70)
                event = draw_event(draw, day)
                told = (rules, kind, days, clock, day, event)
                expected = is_permitted_by_definition(*told)
                self.assertExact(is_permitted(*told), expected, told)
                judgment_day, attempts, stays, first_appeal = clock
                if expected and event[0] == "attempt":
                    attempts = attempts + ((day, event[1], False),)
                if expected and event[0] == "return":
                    changed = list(attempts)
                    changed[event[1]] = attempts[event[1]][:2] + (True,)
                    attempts = tuple(changed)
                if expected and event[0] == "stay":
                    stays = stays + ((event[1], event[2]),)
                clock = (judgment_day, attempts, stays, first_appeal)
                self.assertExact(clock_after(*told), clock, told)

    def test_events_do_not_change_what_has_expired(self):
        for draw, rules, kind, days, clock in self.drawn(52, 300):
            for end_of in (own_end, period_end):
                end = end_of(rules, kind, days, clock)
                behind, day = clock, end + 1
                for _ in range(8):
                    event = draw_event(draw, day)
                    behind = clock_after(rules, kind, days, behind, day, event)
                    self.assertExact(end_of(rules, kind, days, behind), end, (rules, kind, days, clock))
                    day += draw.choice((0, 0, 1, 5))


class ChangingEvents(PeriodCase):

    def test_the_last_day_and_the_day_behind_it(self):
        clock = (10, SERVED, (), None)
        self.assertExact(changing_events(EVERY_DAY, "calendar", 4, clock, 15), (("stay", 15, 15),))
        self.assertExact(changing_events(EVERY_DAY, "calendar", 4, clock, 16), None)

    def test_a_period_without_service(self):
        clock = (10, (), (), None)
        found = changing_events(EVERY_DAY, "calendar", 4, clock, 14)
        self.assertExact(found, (("attempt", "hand"),))
        found = changing_events(EVERY_DAY, "calendar", 4, clock, 15)
        self.assertExact(found, (("attempt", "hand"), ("stay", 19, 19)))
        self.assertExact(changing_events(EVERY_DAY, "calendar", 4, clock, 19), (("attempt", "hand"),))
        self.assertExact(changing_events(EVERY_DAY, "calendar", 4, clock, 20), None)

    def test_a_cross_appeal_term_without_service(self):
        found = changing_events(EVERY_DAY, "calendar", 4, (10, (), (), 14), 12)
        self.assertExact(found, (("stay", 19, 19),))
        found = changing_events(EVERY_DAY, "calendar", 4, (10, (), (), 20), 24)
        self.assertExact(found, (("stay", 25, 25),))
        found = changing_events(EVERY_DAY, "calendar", 4, (10, (), (), 13), 12)
        self.assertExact(found, (("attempt", "hand"),))

    def test_drawn_clocks(self):
        for draw, rules, kind, days, clock in self.drawn(53, 800):
            end = period_by_definition(rules, kind, days, clock)
            self.assertExact(changing_events(rules, kind, days, clock, end + draw.randint(1, 9)), None)
            day = draw.randint(0, end)
            told = (rules, kind, days, clock, day)
            events = changing_events(*told)
            behind = clock
            for event in events:
                self.assertExact(period_by_definition(rules, kind, days, behind), end, told)
                self.assertTrue(is_permitted_by_definition(rules, kind, days, behind, day, event), told)
                behind = clock_after(rules, kind, days, behind, day, event)
            self.assertNotEqual(period_by_definition(rules, kind, days, behind), end, told)
            self.assertIn(events, self.candidates(told, end), told)

    def candidates(self, told, end):
        """Return the events that the document lets for a clock: by service and by the cross term."""
        rules, _, _, clock, _ = told
        served = service_by_definition(rules, clock[1]) is not None
        cross = None
        if clock[3] is not None:
            cross = term_end_by_definition(rules[:2], clock[2], "calendar", clock[3], rules[2])
        if served or cross == end:
            return ((("stay", end, end),),)
        return ((("attempt", "hand"),), (("attempt", "hand"), ("stay", end, end)))


if __name__ == "__main__":
    unittest.main()
