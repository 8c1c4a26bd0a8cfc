"""Points 250 and 251: the registry."""

import inspect
import random
import unittest

from casedraw import draw_config
from courtroom import draw_any_filing, draw_day
from exact import ExactCase
from overturn.configs import config_errors
from overturn.dockets import Docket
from overturn.errors import BadConfig, NothingToUndo
from overturn.intake import new_queue, submitted
from overturn.registries import Registry
from rooms import HIGH, LOW, MIDDLE, config_of, court

TWO = config_of("((a and (b+ or c!)) unless d)", "(a! or b!)", offices=2)
ONE = config_of("((a and (b+ or c!)) unless d)", "(a! or b!)", offices=1)
COMPLAINT = ("complaint", 0, (), 1, 2, ((0, 100),))
BEAT = ("heartbeat",)


def state_of(registry):
    """Return all that a registry tells."""
    return (
        registry.config, registry.day, registry.cases, registry.precedents, registry.transfers,
        registry.watermarks, registry.pending, registry.log, len(registry), list(registry),
    )


def registry_of(config, submissions):
    """Return a registry with the submissions, one after another."""
    registry = Registry(config)
    for submission in submissions:
        registry.submit((submission,))
    return registry


class NewRegistries(ExactCase):

    def test_empty(self):
        for offices in (1, 2, 3):
            config = config_of("a", offices=offices)
            expected = (config, 0, (), (), (), ((0, 0),) * offices, (), (), 0, [])
            self.assertExact(state_of(Registry(config)), expected)

    def test_configurations_that_are_not_valid(self):
        for config in (
            config_of("a", courts=(court(HIGH, superior=0), MIDDLE, LOW)),
            config_of("a", jurisdiction=(((0, 1, 2, 3), 0, None, 3),)),
            config_of("a", jurisdiction=(((0, 1, 2), 0, None, 2),)),
        ):
            with self.assertRaises(BadConfig) as caught:
                Registry(config)
            self.assertExact(caught.exception.errors, config_errors(config))

    def test_what_is_listed_cannot_be_set(self):
        registry = Registry(TWO)
        for name in ("config", "day", "cases", "precedents", "transfers", "watermarks", "pending", "log"):
            self.assertIsInstance(inspect.getattr_static(registry, name), property)


class Submitting(ExactCase):

    def test_one_office(self):
        # Nothing can come before a stamp whose predecessors are all there.
        registry = Registry(ONE)
        told = registry.submit(((3, 0, 1, COMPLAINT), (4, 0, 3, ("answer", 0)), (3, 0, 2, ("answer", 0))))
        self.assertExact(told, (
            ((3, 0, 1, None, (0, 2)),), (), ((3, 0, 2, None, ()), (4, 0, 3, "answered", ())),
        ))

    def test_a_gap_holds_back(self):
        registry = Registry(TWO)
        rows = (
            (0, 0, 1, COMPLAINT), (5, 1, 1, BEAT), (5, 0, 3, ("answer", 0)), (2, 0, 2, ("answer", 0)),
            (6, 1, 2, BEAT), (9, 0, 4, BEAT),
        )
        told = registry.submit(rows)
        self.assertExact(told, (
            ((0, 0, 1, None, (0, 2)),),
            (),
            (),
            ((2, 0, 2, None, ()), (5, 0, 3, "answered", ())),
            (),
            ((5, 1, 1, None, ()), (6, 1, 2, None, ())),
        ))
        self.assertExact((registry.log, registry.pending), (rows, rows[5:]))
        self.assertExact((registry.watermarks, registry.day, len(registry)), (((4, 9), (2, 6)), 6, 5))

    def by_queue(self, config, submissions):
        """Return what the submissions tell, by a queue and a docket of their own."""
        queue, docket, told = new_queue(config[1]), Docket(config), []
        filings = {}
        for day, office, sequence, filing in submissions:
            stamp = (day, office, sequence)
            reason, stamps, queue = submitted(queue, stamp)
            if reason is not None:
                told.append(reason)
                continue
            filings[stamp] = filing
            told.append(tuple(one + docket.file(one[0], filings[one]) for one in stamps))
        return tuple(told)

    def test_rejections_of_the_queue_change_nothing(self):
        registry = Registry(TWO)
        registry.submit(((3, 0, 1, COMPLAINT), (4, 1, 1, BEAT), (6, 0, 3, BEAT)))
        before = state_of(registry)
        for submission, reason in (
            ((9, 2, 1, BEAT), "unknown office"),
            ((9, 9, 1, BEAT), "unknown office"),
            ((9, 0, 1, BEAT), "duplicate"),
            ((6, 0, 3, BEAT), "duplicate"),
            ((2, 0, 2, BEAT), "day out of order"),
            ((7, 0, 2, BEAT), "day out of order"),
            ((3, 1, 2, BEAT), "day out of order"),
        ):
            self.assertExact(registry.submit((submission,)), (reason,))
            self.assertExact(state_of(registry), before)

    def test_full(self):
        registry = Registry(TWO)
        for sequence in range(2, 14):
            self.assertExact(registry.submit(((5, 0, sequence, BEAT),)), ((),))
        before = state_of(registry)
        self.assertExact(len(registry.pending), 12)
        self.assertExact(registry.submit(((5, 0, 1, BEAT), (5, 0, 14, BEAT))), ("full", "full"))
        self.assertExact(state_of(registry), before)

    def test_what_the_docket_rejects_has_a_receipt(self):
        registry = Registry(TWO)
        told = registry.submit(((1, 0, 1, ("answer", 4)), (2, 1, 1, BEAT), (2, 0, 2, COMPLAINT), (3, 1, 2, BEAT)))
        self.assertExact(told[1], ((1, 0, 1, "no case", ()),))
        self.assertExact(told, self.by_queue(TWO, registry.log))
        self.assertExact(list(registry), [receipt for one in told for receipt in one])

    def test_nothing(self):
        self.assertExact(Registry(TWO).submit(()), ())

    def test_pending_in_the_order_of_their_stamps(self):
        registry = Registry(TWO)
        rows = ((9, 0, 4, ("answer", 0)), (7, 1, 3, BEAT), (7, 0, 2, COMPLAINT), (5, 1, 2, ("hearing", 3)))
        registry.submit(rows)
        self.assertExact(registry.pending, tuple(sorted(rows, key=lambda row: row[:3])))
        self.assertExact(registry.log, rows)
        self.assertExact((registry.day, len(registry), registry.watermarks), (0, 0, ((0, 0), (0, 0))))

    def test_the_day_is_that_of_the_docket(self):
        registry = Registry(TWO)
        registry.submit(((4, 0, 1, COMPLAINT), (9, 1, 1, BEAT)))
        self.assertExact(registry.day, 4)
        registry.submit(((20, 0, 2, BEAT),))
        self.assertExact(registry.day, 9)


class Undoing(ExactCase):

    ROWS = (
        (0, 0, 1, COMPLAINT), (4, 1, 1, ("answer", 0)), (3, 0, 3, ("deposit", 0, 0, 9)),
        (2, 0, 2, ("ruling", 0, 0, 2, "1", ())), (6, 1, 2, COMPLAINT), (9, 0, 4, BEAT),
    )

    def test_some(self):
        for many in range(len(self.ROWS) + 1):
            registry = registry_of(TWO, self.ROWS)
            self.assertExact(registry.log, self.ROWS)
            kept = len(self.ROWS) - many
            self.assertExact(registry.undo(many), self.ROWS[kept:])
            self.assertExact(state_of(registry), state_of(registry_of(TWO, self.ROWS[:kept])))
            registry.submit(self.ROWS[kept:])
            self.assertExact(state_of(registry), state_of(registry_of(TWO, self.ROWS)))

    def test_one_by_default_and_by_name(self):
        registry = registry_of(TWO, self.ROWS)
        self.assertExact(registry.undo(), self.ROWS[5:])
        self.assertExact(registry.undo(many=2), self.ROWS[3:5])
        self.assertExact(state_of(registry), state_of(registry_of(TWO, self.ROWS[:3])))

    def test_none_and_one_more_than_all(self):
        self.assertExact(Registry(TWO).undo(0), ())
        with self.assertRaises(NothingToUndo):
            Registry(TWO).undo()
        registry = registry_of(TWO, self.ROWS)
        before = state_of(registry)
        self.assertExact(registry.undo(0), ())
        for many in (7, 99):
            with self.assertRaises(NothingToUndo):
                registry.undo(many)
            self.assertExact(state_of(registry), before)

    def test_rejected_submissions_are_not_undone(self):
        registry = registry_of(TWO, self.ROWS[:2])
        registry.submit(((0, 0, 1, BEAT), (0, 5, 1, BEAT)))
        self.assertExact(registry.undo(), self.ROWS[1:2])

    def test_the_receipts_go_with_the_last_submission_that_caused_them(self):
        registry = registry_of(TWO, self.ROWS[:4])
        many = len(registry)
        registry.submit(self.ROWS[4:])
        self.assertGreater(len(registry), many)
        registry.undo(2)
        self.assertExact(len(registry), many)
        self.assertExact(list(registry), list(registry_of(TWO, self.ROWS[:4])))


def draw_submissions(draw, config, many):
    """Draw submissions that fit together."""
    docket, day = Docket(config), 0
    numbers = [0] * config[1]
    rows = []
    for _ in range(many):
        day = draw_day(draw, day)
        filing = draw_any_filing(draw, config, docket.cases, day)
        docket.file(day, filing)
        office = draw.randrange(config[1])
        numbers[office] += 1
        rows.append((day, office, numbers[office], filing))
    return rows


class AnyOrder(ExactCase):

    def test_the_registry_is_the_same(self):
        draw = random.Random(251)
        processed = 0
        for _ in range(150):
            config = draw_config(draw)
            rows = draw_submissions(draw, config, draw.randint(1, 12))
            registry = Registry(config)
            told = registry.submit(tuple(rows))
            self.assertExact(told, Submitting().by_queue(config, rows))
            for _ in range(3):
                draw.shuffle(rows)
                other = Registry(config)
                told = other.submit(tuple(rows))
                self.assertTrue(all(isinstance(one, tuple) for one in told))
                self.assertExact(other.log, tuple(rows))
                same = [
                    (one.cases, one.precedents, one.transfers, one.watermarks, one.pending, list(one), one.day)
                    for one in (registry, other)
                ]
                self.assertExact(same[0], same[1])
            processed += len(registry)
        self.assertGreater(processed, 300)

    def test_drawn_submissions_with_rejections(self):
        draw = random.Random(250)
        for _ in range(100):
            config = draw_config(draw)
            rows = draw_submissions(draw, config, draw.randint(1, 30))
            for _ in range(draw.randint(0, 8)):
                place = draw.randrange(len(rows))
                day, office, sequence, filing = draw.choice(rows)
                row = (max(0, day + draw.randint(-2, 2)), draw.choice((office, office, 7)), sequence, filing)
                rows.insert(place, row)
            registry = Registry(config)
            told = registry.submit(tuple(rows))
            self.assertExact(told, Submitting().by_queue(config, rows))
            accepted = tuple(row for row, one in zip(rows, told) if isinstance(one, tuple))
            self.assertExact(registry.log, accepted)
            filings = {row[:3]: row[3] for row in accepted}
            docket = Docket.replayed(config, tuple((row[0], filings[row[:3]]) for row in registry))
            self.assertExact(
                (registry.cases, registry.precedents, registry.transfers, registry.day),
                (docket.cases, docket.precedents, docket.transfers, docket.day))
            many = draw.randint(0, len(registry.log))
            self.assertExact(registry.undo(many), accepted[len(accepted) - many:])
            self.assertExact(state_of(registry), state_of(registry_of(config, accepted[:len(accepted) - many])))


if __name__ == "__main__":
    unittest.main()
