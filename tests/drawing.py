"""Drawn inputs. Each function takes a random.Random with a fixed seed."""

METHODS = ("hand", "post", "notice")


def draw_calendar(random, days=60):
    week = "0000000"
    while "1" not in week:
        share = random.choice((0.2, 0.5, 0.8))
        week = "".join("1" if random.random() < share else "0" for _ in range(7))
    if random.random() < 0.2:
        week = "1111111"
    closed = tuple(sorted(random.sample(range(days), random.randint(0, 10))))
    return week, closed


def draw_stays(random, days=60, many=6):
    stays = []
    for _ in range(random.randint(0, many)):
        if stays and random.random() < 0.2:
            # Equal ones and ones that touch are rare otherwise.
            first, last = random.choice(stays)
            stays.append(random.choice(((first, last), (last + 1, last + 2), (first, first))))
            continue
        first = random.randint(0, days)
        stays.append((first, max(0, first + random.randint(-4, 12))))
    return tuple(stays)


def draw_rules(random, days=60):
    week, closed = draw_calendar(random, days)
    return (
        week,
        closed,
        random.randint(1, 30),
        random.randint(1, 100),
        random.randint(0, 10),
        random.randint(0, 20),
        random.randint(1, 30),
    )


def draw_attempts(random, days=60, many=6):
    return tuple(
        (random.randint(0, days), random.choice(METHODS), random.random() < 0.4)
        for _ in range(random.randint(0, many))
    )


def draw_clock(random, days=60):
    return (
        random.randint(0, days),
        draw_attempts(random, days, random.choice((0, 1, 6))),
        draw_stays(random, days),
        random.choice((None, random.randint(0, days))),
    )


def draw_event(random, day):
    word = random.choice(("attempt", "return", "stay"))
    if word == "attempt":
        return word, random.choice(METHODS)
    if word == "return":
        return word, random.choice((random.randint(0, 5), random.randint(0, 9)))
    first = max(0, day + random.randint(-3, 12))
    return word, first, max(0, first + random.randint(-2, 8))


def draw_cause(random, issues=8, nested=7):
    """Draw a cause with exactly so many issues, from 1 to 8, whose names differ."""
    names = [random.choice("abcdefghijklmnopqrstuvwxyz") + letter for letter in "abcdefgh"]
    return _draw_formula(random, issues, nested, names)


def _draw_formula(random, issues, nested, names):
    if issues == 1:
        of_law, majority = random.choice(((False, 0), (False, 1), (False, 2), (True, 0)))
        return "issue", names.pop(), of_law, majority
    # Each operand needs enough depth for its issues.
    most = 2 ** (nested - 1)
    least, greatest = max(1, issues - most), min(issues - 1, most)
    left = random.choice((least, greatest, random.randint(least, greatest)))
    word = random.choice(("and", "or", "unless"))
    first = _draw_formula(random, left, nested - 1, names)
    return word, first, _draw_formula(random, issues - left, nested - 1, names)


def draw_findings(random, issues):
    letters = random.choice(("01?", "01????", "??????1", "0011?"))
    return "".join(random.choice(letters) for _ in range(issues))


def draw_cost(random):
    """Draw a cost; small ones and infinite ones are often equal."""
    return random.choice((0, 0, None, random.randint(0, 3), random.randint(0, 100)))


def draw_costs(random, issues):
    return tuple((draw_cost(random), draw_cost(random)) for _ in range(issues))


def draw_one_way_costs(random, issues):
    """Draw costs of which at least one is 0 for each issue, mostly for finding it true."""
    pairs = []
    for _ in range(issues):
        pair = (0, random.choice((draw_cost(random), random.randint(1, 9))))
        pairs.append(pair if random.random() < 0.6 else pair[::-1])
    return tuple(pairs)


def draw_assignment(random, issues):
    letters = random.choice(("01?", "01????", "0011?"))
    return "".join(random.choice(letters) for _ in range(issues))


def draw_hierarchy(random, many):
    """Draw the courts of a hierarchy; only the superiors are of interest."""
    superiors = [random.choice((None, *range(number), *range(number))) for number in range(many)]
    return tuple((superior, 1, 1, True, 0, 5, False, 0) for superior in superiors)


def draw_jurisdiction(random, limit):
    """Draw rules whose amounts are at most the limit, many of which touch one another."""
    rules, ends = [], [0, limit]
    for _ in range(random.randint(1, 8)):
        categories = tuple(sorted(random.sample(range(4), random.choice((1, 2, 4, 4)))))
        low = random.choice((0, random.choice(ends), random.randint(0, limit)))
        high = random.choice((None, random.choice(ends), random.randint(0, limit)))
        if high is not None:
            ends.extend([high, min(limit, high + 1)])
        rules.append((categories, low, high, random.randint(0, 9)))
    return tuple(rules)


def draw_courts(random, many):
    """Draw the courts of a hierarchy with benches of every size."""
    courts = []
    for superior, *_ in draw_hierarchy(random, many):
        bench = random.randint(1, 5)
        full_bench = random.randint(bench, 9)
        facts, least = random.random() < 0.7, random.choice((0, 0, 499, 500, 501, 10000))
        courts.append((superior, bench, full_bench, facts, least, 5, False, 0))
    return tuple(courts)


def draw_matter(random):
    of_law = random.random() < 0.5
    precedent = random.choice((None, (random.randint(0, 4), random.random() < 0.5)))
    return of_law, random.randint(0, 2), random.choice((500, 500, 0, 10000)), precedent


def draw_tags(random):
    return tuple(sorted(random.sample((0, 1, 2, 3, 9), random.choice((0, 0, 1, 2, 4)))))


def draw_precedents(random, many):
    """Draw precedents for few causes and issues, so that several are on the same issue."""
    return tuple(
        (
            random.randint(0, 2),
            random.randint(0, 1),
            random.randint(0, 1),
            random.choice((0, 0, 1)),
            random.randint(0, 4),
            random.random() < 0.5,
            draw_tags(random),
        )
        for _ in range(many)
    )
