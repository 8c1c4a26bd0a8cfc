"""Drawn configurations and sound cases. Each function takes a random.Random with a fixed seed."""

import random

from casemodel import BOTH, Model, leaves_of
from drawing import METHODS, draw_cause, draw_hierarchy, draw_tags
from rooms import changed, deliberating, judged
from trees import issue_total, value_by_all


def draw_small_rules(random):
    """Draw time rules by which periods end soon."""
    week = random.choice(("1111111", "1111111", "0111110", "1010101"))
    closed = tuple(sorted(random.sample(range(30), random.choice((0, 0, 3)))))
    return (
        week,
        closed,
        random.randint(1, 4),
        random.randint(2, 15),
        random.randint(0, 3),
        random.randint(0, 3),
        random.randint(1, 4),
    )


def draw_court(random, superior):
    """Draw a court with the superior."""
    bench = random.choice((1, 2, 3, 3, 5))
    return (
        superior,
        bench,
        random.randint(bench, min(9, bench + 4)),
        random.random() < 0.75,
        random.choice((0, 0, 0, 50, 51)),
        random.randint(1, 5),
        random.random() < 0.4,
        random.choice((0, 1, 7, 10)),
    )


def draw_covering_jurisdiction(random, courts):
    """Draw jurisdiction without a gap or an overlap."""
    last = courts - 1
    whole = (0, 1, 2, 3)
    split = random.choice((50, 60, 100))
    return random.choice((
        ((whole, 0, None, last),),
        ((whole, 0, None, last),),
        ((whole, split, None, random.randint(0, last)), (whole, 0, split - 1, last)),
        (((0, 2), 0, None, last), ((1, 3), 0, None, random.randint(0, last))),
    ))


def draw_config(random, courts=4, issues=4, offices=None):
    """Draw a valid configuration of at most so many courts and at most so many issues in a cause."""
    many = random.choice((courts, courts, courts, random.randint(1, courts)))
    superiors = [court[0] for court in draw_hierarchy(random, many)]
    if random.random() < 0.8:
        superiors = [None, *range(many - 1)]
    causes = [draw_cause(random, random.randint(1, issues)) for _ in range(random.randint(1, 3))]
    return (
        draw_small_rules(random),
        offices or random.randint(1, 3),
        random.choice((0, 500, 1000)),
        tuple(draw_court(random, superior) for superior in superiors),
        tuple(causes),
        draw_covering_jurisdiction(random, many),
    )


def decided_findings(random, cause, findings):
    """Return the findings with as many more issues decided as it takes to decide the cause."""
    findings = list(findings)
    open_issues = [issue for issue, letter in enumerate(findings) if letter == "?"]
    random.shuffle(open_issues)
    while value_by_all(cause, "".join(findings)) is None:
        findings[open_issues.pop()] = random.choice("01")
    return "".join(findings)


def draw_element(random, finding, leaf, level, chain, is_judged):
    """Draw an element with the finding that a sound case at the level may have."""
    of_law, _, party = leaf
    if finding == "?":
        return "?", False, None, False
    binding = None
    if of_law and random.random() < 0.5:
        # The levels at and next to that of the case matter most.
        bound = min(len(chain) - 1, max(0, level + random.choice((-1, 0, 0, 1, 1, 2))))
        binding = (bound, finding == "1")
        if bound <= level and random.random() < 0.5:
            binding = (bound, finding == "0")
    for_claimant = (party == "claimant") == (finding == "1")
    if binding is None and random.random() < 0.3 and (level > 0 or (is_judged and for_claimant)):
        return finding, level > 0 and random.random() < 0.2, None, True
    return finding, random.random() < 0.15, binding, False


def draw_days(random, many):
    return tuple(
        (random.randint(0, 12), random.choice(METHODS), random.random() < 0.3) for _ in range(many)
    )


def draw_stage(random, config, case):
    """Draw a stage that makes the case sound: judged if every claim is decided, mostly."""
    model = Model(config, case)
    decided = all(model.winner(claim) is not None for claim in range(len(model.claims)))
    remitted = ()
    if model.level > 0 and not model.is_judged:
        likely = [
            pair for pair in model.pairs
            if model.element(pair)["finding"] != "?" and not model.element(pair)["barred"]
            and model.is_reviewed(pair, model.level)
        ]
        remitted = tuple(sorted(random.sample(likely, random.choice((len(likely), random.randint(0, len(likely)))))))
    if not model.is_judged and (remitted or not decided):
        return deliberating(*remitted)
    day = random.randint(0, 8)
    attempts, named, first_appeal = ((), ()), (None, None), None
    if model.next is not None:
        attempts = tuple(draw_days(random, random.choice((0, 1, 1, 2, 4))) for _ in BOTH)
        nameable = [model.nameable(party) for party in BOTH]
        named = tuple(
            tuple(random.sample(one, random.randint(1, len(one))))
            if one and random.random() < 0.5 else random.choice((None, None, ()))
            for one in nameable
        )
        if any(named):
            first_appeal = day + random.randint(0, 8)
    return judged(day, attempts, named, first_appeal)


def draw_case(random, config):
    """Draw a sound case, whether or not filings lead to it."""
    courts, causes = config[3:5]
    chain = [random.choice((len(courts) - 1, len(courts) - 1, random.randint(0, len(courts) - 1)))]
    while courts[chain[-1]][0] is not None:
        chain.append(courts[chain[-1]][0])
    level = random.choice((0, random.randint(0, len(chain) - 1)))
    is_judged = random.random() < 0.6
    claims = []
    for _ in range(random.choice((1, 1, 2, 3))):
        number = random.randint(0, len(causes) - 1)
        cause = causes[number]
        letters = random.choice(("01?", "01??", "0011?"))
        findings = "".join(random.choice(letters) for _ in range(issue_total(cause)))
        if is_judged:
            findings = decided_findings(random, cause, findings)
        leaves = leaves_of(cause)
        elements = tuple(
            draw_element(random, finding, leaf, level, chain, is_judged)
            for finding, leaf in zip(findings, leaves)
        )
        account = (random.choice((0, 0, 60)), random.choice((0, 60, 200)))
        claims.append((number, random.choice((10, 50, 51, 9999)), account, elements))
    first = random.randint(0, 3)
    stays = tuple(
        (day, day + random.randint(0, 3))
        for day in (random.randint(0, 15) for _ in range(random.choice((0, 0, 1, 3, 6))))
    )
    stage = judged() if is_judged else deliberating()
    case = (
        random.randint(0, 5), random.choice((0, 0, first)), random.randint(0, 3), draw_tags(random),
        tuple(random.sample(range(4), 2)), tuple(chain), random.random() < 0.4,
        draw_days(random, random.choice((0, 1, 2, 4))), stays,
        is_judged or level > 0 or random.random() < 0.5, (1, 0), tuple(claims), level, stage,
    )
    case = changed(case, stage=draw_stage(random, config, case))
    if case[13][0] == "judged" and not is_judged:
        # A claim was decided by chance while the case was meant to be open.
        return draw_case(random, config)
    return case


def draw_case_day(random, config, case):
    """Draw a day for the case, often the last one of a period or the day behind it."""
    least = case[1]
    if case[13][0] == "judged":
        least = max(least, case[13][1])
        if random.random() < 0.5:
            own, end = random.choice(Model(config, case).periods())
            return max(least, random.choice((own, end)) + random.choice((0, 1)))
    return least + random.choice((0, 0, 1, 3, 6, 10, 20))


def sound_cases(seed, many, **bounds):
    """Draw so many configurations and sound cases, each with a day."""
    draw = random.Random(seed)
    for _ in range(many):
        config = draw_config(draw, **bounds)
        case = draw_case(draw, config)
        yield draw, config, case, draw_case_day(draw, config, case)
