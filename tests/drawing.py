"""Drawn inputs. Each function takes a random.Random with a fixed seed."""

METHODS = ("hand", "post", "notice")


def draw_calendar(random, days=60):
    week = "0000000"
    while "1" not in week:
        share = random.choice((0.2, 0.5, 0.8))
        week = "".join("1" if random.random() < share else "0" for _ in range(7))
    if random.random() < 0.2:
        week = "1111111"
    closed = tuple(sorted(random.sample(range(days), random.randint(0, 10))))
    return week, closed


def draw_stays(random, days=60, many=6):
    stays = []
    for _ in range(random.randint(0, many)):
        if stays and random.random() < 0.2:
            # Equal ones and ones that touch are rare otherwise.
            first, last = random.choice(stays)
            stays.append(random.choice(((first, last), (last + 1, last + 2), (first, first))))
            continue
        first = random.randint(0, days)
        stays.append((first, max(0, first + random.randint(-4, 12))))
    return tuple(stays)


def draw_rules(random, days=60):
    week, closed = draw_calendar(random, days)
    return (
        week,
        closed,
        random.randint(1, 30),
        random.randint(1, 100),
        random.randint(0, 10),
        random.randint(0, 20),
        random.randint(1, 30),
    )


def draw_attempts(random, days=60, many=6):
    return tuple(
        (random.randint(0, days), random.choice(METHODS), random.random() < 0.4)
        for _ in range(random.randint(0, many))
    )
