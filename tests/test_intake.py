"""Points 60, 61, 62 and 63: the intake queue."""

import random
import unittest

from exact import ExactCase
from overturn.intake import admissible_stamps, awaited_stamp, new_queue, rejection, submitted


class Model:
    """The queue as the document tells it: all that was accepted and all that was processed."""

    def __init__(self, offices):
        self.offices = offices
        self.accepted = []
        self.processed = []

    def of_office(self, office):
        return {stamp[2]: stamp[0] for stamp in self.accepted if stamp[1] == office}

    def watermark(self, office):
        days = self.of_office(office)
        gap = min(number for number in range(1, len(days) + 2) if number not in days)
        return (gap - 1, days.get(gap - 1, 0))

    def pending(self):
        return sorted(stamp for stamp in self.accepted if stamp not in self.processed)

    def reason(self, stamp):
        day, office, sequence = stamp
        if office not in range(self.offices):
            return "unknown office"
        days = self.of_office(office)
        if sequence in days:
            return "duplicate"
        before = [other for number, other in days.items() if number < sequence]
        behind = [other for number, other in days.items() if number > sequence]
        # Beyond the pending stamps only the watermark is told, but the days of an office never fall.
        if any(day < other for other in before) or any(day > other for other in behind):
            return "day out of order"
        if len(self.pending()) >= 12:
            return "full"
        return None

    def is_preceded(self, stamp):
        """Return whether any admissible stamp precedes the stamp."""
        for office in range(self.offices):
            last = max(self.of_office(office), default=0)
            for sequence in range(1, last + 2):
                for day in range(stamp[0] + 1):
                    other = (day, office, sequence)
                    if other < stamp and self.reason(other) in (None, "full"):
                        return True
        return False

    def submit(self, stamp):
        reason = self.reason(stamp)
        if reason is not None:
            return reason, ()
        self.accepted.append(stamp)
        now = tuple(other for other in self.pending() if not self.is_preceded(other))
        self.processed.extend(now)
        return None, now

    def queue(self):
        return tuple(self.watermark(office) for office in range(self.offices)), tuple(self.pending())


def behind_all(queue, *stamps):
    """Return the queue behind the stamps, each of which is accepted."""
    for stamp in stamps:
        reason, _, queue = submitted(queue, stamp)
        if reason is not None:
            raise AssertionError(f"{stamp}: {reason}")
    return queue


def draw_submissions(random, offices, many):
    """Draw the stamps of all offices, with numbers from 1 on and days that never fall."""
    stamps = []
    days, numbers = [0] * offices, [0] * offices
    for _ in range(many):
        office = random.randrange(offices)
        days[office] += random.choice((0, 0, 1, 1, 3))
        numbers[office] += 1
        stamps.append((days[office], office, numbers[office]))
    return stamps


class Rejections(ExactCase):

    def reject(self, queue, stamp, reason):
        self.assertExact(rejection(queue, stamp), reason)
        self.assertExact(submitted(queue, stamp), (reason, (), queue))

    def test_a_new_queue(self):
        for offices in (1, 2, 3):
            self.assertExact(new_queue(offices), (((0, 0),) * offices, ()))

    def test_unknown_office(self):
        for offices in (1, 2, 3):
            for office in range(10):
                reason = None if office < offices else "unknown office"
                self.assertExact(rejection(new_queue(offices), (3, office, 2)), reason)
        self.reject(new_queue(2), (3, 2, 1), "unknown office")

    def test_duplicates(self):
        queue = behind_all(new_queue(2), (5, 0, 1), (6, 0, 2), (9, 0, 5))
        for sequence in (1, 2, 5):
            for day in (0, 5, 6, 9, 20):
                self.reject(queue, (day, 0, sequence), "duplicate")
        self.assertExact(rejection(queue, (5, 1, 1)), None)

    def test_a_processed_stamp_is_a_duplicate(self):
        queue = behind_all(new_queue(1), (5, 0, 1))
        self.assertExact(queue, (((1, 5),), ()))
        self.reject(queue, (5, 0, 1), "duplicate")

    def test_day_before_the_watermark(self):
        queue = behind_all(new_queue(1), (5, 0, 1))
        self.reject(queue, (4, 0, 2), "day out of order")
        self.reject(queue, (4, 0, 9), "day out of order")
        self.assertExact(rejection(queue, (5, 0, 2)), None)

    def test_day_among_the_pending_stamps(self):
        queue = behind_all(new_queue(2), (5, 0, 3), (9, 0, 7))
        self.reject(queue, (4, 0, 4), "day out of order")
        self.reject(queue, (10, 0, 6), "day out of order")
        self.reject(queue, (6, 0, 2), "day out of order")
        self.reject(queue, (8, 0, 8), "day out of order")
        for stamp in ((5, 0, 4), (9, 0, 6), (5, 0, 2), (0, 0, 1), (9, 0, 8), (0, 1, 9), (99, 1, 1)):
            self.assertExact(rejection(queue, stamp), None, stamp)

    def test_twelve_pending_stamps(self):
        eleven = [(day, 0, day + 1) for day in range(1, 12)]
        queue = behind_all(new_queue(2), *eleven)
        self.assertExact(rejection(queue, (12, 0, 13)), None)
        queue = behind_all(queue, (12, 0, 13))
        self.assertExact(len(queue[1]), 12)
        self.reject(queue, (13, 0, 14), "full")
        # Even number 1, with which some could be processed.
        self.reject(queue, (0, 0, 1), "full")
        self.reject(queue, (0, 1, 1), "full")

    def test_the_reasons_in_their_order(self):
        queue = behind_all(new_queue(1), *[(day, 0, day + 1) for day in range(1, 13)])
        self.reject(queue, (99, 1, 2), "unknown office")
        self.reject(queue, (99, 0, 2), "duplicate")
        self.reject(queue, (99, 0, 1), "day out of order")
        self.reject(queue, (0, 0, 1), "full")


class Processing(ExactCase):

    def test_one_office_waits_for_its_gaps_only(self):
        queue = new_queue(1)
        self.assertExact(submitted(queue, (4, 0, 1)), (None, ((4, 0, 1),), (((1, 4),), ())))
        queue = behind_all(queue, (4, 0, 1), (4, 0, 3))
        self.assertExact(queue, (((1, 4),), ((4, 0, 3),)))
        found = submitted(queue, (4, 0, 2))
        self.assertExact(found, (None, ((4, 0, 2), (4, 0, 3)), (((3, 4),), ())))

    def test_an_office_waits_for_the_others(self):
        queue = behind_all(new_queue(3), (4, 0, 1), (4, 1, 1))
        self.assertExact(queue, (((1, 4), (1, 4), (0, 0)), ((4, 0, 1), (4, 1, 1))))
        found = submitted(queue, (4, 2, 1))
        # Office 0 may still submit (4, 0, 2), which precedes all stamps of the others on this day.
        self.assertExact(found[1], ((4, 0, 1),))
        self.assertExact(found[2][1], ((4, 1, 1), (4, 2, 1)))
        found = submitted(found[2], (5, 0, 2))
        self.assertExact(found[1], ((4, 1, 1),))
        found = submitted(found[2], (5, 1, 2))
        self.assertExact(found[1], ((4, 2, 1),))

    def test_the_watermark_of_another_office_does_not_move(self):
        queue = behind_all(new_queue(2), (4, 1, 2), (1, 0, 1))
        self.assertExact(queue[0], ((1, 1), (0, 0)))

    def test_the_watermark_stops_at_the_first_gap(self):
        queue = behind_all(new_queue(2), (7, 0, 2), (8, 0, 3), (9, 0, 5), (6, 0, 1))
        self.assertExact(queue[0], ((3, 8), (0, 0)))
        self.assertExact(queue[1], ((6, 0, 1), (7, 0, 2), (8, 0, 3), (9, 0, 5)))

    def test_least_admissible_stamps_and_the_awaited_one(self):
        queue = new_queue(3)
        self.assertExact(admissible_stamps(queue), ((0, 0, 1), (0, 1, 1), (0, 2, 1)))
        self.assertExact(awaited_stamp(queue), (0, 0, 1))
        queue = behind_all(queue, (7, 0, 1), (5, 1, 1), (5, 1, 2), (5, 2, 1))
        self.assertExact(admissible_stamps(queue), ((7, 0, 2), (5, 1, 3), (5, 2, 2)))
        self.assertExact(awaited_stamp(queue), (5, 1, 3))

    def test_sequence_numbers_have_no_upper_limit_for_admissible_stamps(self):
        queue = (((999, 3), (1000, 3)), ((4, 0, 1001),))
        self.assertExact(admissible_stamps(queue), ((3, 0, 1000), (3, 1, 1001)))
        found = submitted(queue, (3, 0, 1000))
        self.assertExact(found, (None, ((3, 0, 1000),), (((1001, 4), (1000, 3)), ((4, 0, 1001),))))
        self.assertExact(awaited_stamp(found[2]), (3, 1, 1001))

    def test_days_behind_400(self):
        queue = behind_all(new_queue(1), (4000, 0, 1))
        self.assertExact(queue, (((1, 4000),), ()))

    def check_against_the_model(self, draw, offices, stamps):
        queue, model = new_queue(offices), Model(offices)
        for stamp in stamps:
            reason, processed = model.submit(stamp)
            self.assertExact(rejection(queue, stamp), reason, (queue, stamp))
            found = submitted(queue, stamp)
            self.assertExact(found, (reason, processed, model.queue()), (queue, stamp))
            queue = found[2]
            if queue[1]:
                self.assertLess(awaited_stamp(queue), queue[1][0])
        self.assertExact(model.processed, sorted(model.processed))

    def test_drawn_submissions_with_faults(self):
        draw = random.Random(60)
        for _ in range(120):
            offices = draw.randint(1, 3)
            stamps = draw_submissions(draw, offices, draw.randint(1, 14))
            for _ in range(draw.randint(0, 10)):
                stamps.append((draw.randint(0, 9), draw.randint(0, offices), draw.randint(1, 7)))
            draw.shuffle(stamps)
            self.check_against_the_model(draw, offices, stamps)

    def test_queues_that_are_full(self):
        draw = random.Random(61)
        for _ in range(30):
            stamps = [stamp for stamp in draw_submissions(draw, 2, 20) if stamp[2] > 1]
            self.check_against_the_model(draw, 2, stamps + [(0, 0, 1), (0, 1, 1)])

    def test_the_order_of_arrival_does_not_matter(self):
        draw = random.Random(62)
        for _ in range(200):
            offices = draw.randint(1, 3)
            stamps = draw_submissions(draw, offices, draw.randint(1, 12))
            ends = []
            for _ in range(2):
                draw.shuffle(stamps)
                queue, done = new_queue(offices), []
                for stamp in stamps:
                    reason, processed, queue = submitted(queue, stamp)
                    self.assertExact(reason, None)
                    done.extend(processed)
                self.assertExact(done, sorted(done))
                ends.append((done, queue))
            self.assertExact(ends[0], ends[1])


if __name__ == "__main__":
    unittest.main()
