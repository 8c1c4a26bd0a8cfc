"""The intake queue: it passes stamps on in their order, as soon as none before them can be missing."""

MOST_PENDING = 12


def new_queue(offices):
    """Return a new queue with so many offices."""
    return ((0, 0),) * offices, ()


def is_duplicate(queue, stamp):
    """Return whether a submission with the office and the sequence number of the stamp was accepted."""
    watermarks, pending = queue
    _, office, sequence = stamp
    if sequence <= watermarks[office][0]:
        return True
    return any([other[1:] == (office, sequence) for other in pending])


def is_out_of_order(queue, stamp):
    """Return whether the day of the stamp contradicts what its office has submitted."""
    watermarks, pending = queue
    day, office, sequence = stamp
    if day < watermarks[office][1]:
        return True
    for other_day, other_office, other_sequence in pending:
        if other_office != office:
            continue
        if other_sequence < sequence and day < other_day:
            return True
        if other_sequence > sequence and day > other_day:
            return True
    return False


def rejection(queue, stamp):
    """Return the reason for which the stamp would be rejected now, or None."""
    watermarks, pending = queue
    if stamp[1] >= len(watermarks):
        return "unknown office"
    if is_duplicate(queue, stamp):
        return "duplicate"
    if is_out_of_order(queue, stamp):
        return "day out of order"
    if len(pending) >= MOST_PENDING:
        return "full"
    return None


def advanced(watermark, office, pending):
    """Return the watermark of the office once it has advanced over its pending stamps."""
    sequence, day = watermark
    # A stamp behind a gap is never processed, so what was accepted there is still pending.
    days = {stamp[2]: stamp[0] for stamp in pending if stamp[1] == office}
    while sequence + 1 in days:
        sequence += 1
        day = days[sequence]
    return sequence, day


def submitted(queue, stamp):
    """Return the reason of the rejection or None, the stamps that are processed, the queue behind."""
    reason = rejection(queue, stamp)
    if reason is not None:
        return reason, (), queue
    watermarks = list(queue[0])
    pending = tuple(sorted(queue[1] + (stamp,)))
    office = stamp[1]
    watermarks[office] = advanced(watermarks[office], office, pending)
    awaited = awaited_stamp((tuple(watermarks), pending))
    processed = tuple([other for other in pending if other < awaited])
    return None, processed, (tuple(watermarks), pending[len(processed):])


def admissible_stamps(queue):
    """Return the least admissible stamp of each office."""
    watermarks = queue[0]
    return tuple([
        (day, office, sequence + 1) for office, (sequence, day) in enumerate(watermarks)
    ])


def awaited_stamp(queue):
    """Return the least one of the least admissible stamps of the offices."""
    return min(admissible_stamps(queue))
