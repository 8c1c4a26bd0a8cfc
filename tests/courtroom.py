"""Drawn configurations, filings and dockets. Each function takes a random.Random with a fixed seed."""

from drawing import METHODS, draw_tags
from overturn.cases import findings_of, nameable_issues
from overturn.causes import issues_of
from overturn.dockets import Docket
from overturn.records import all_issues, court_at, is_judged, remitted_in
from overturn.relevance import relevant_issues

PARTIES = ("claimant", "respondent")
WORDS = (
    "serve", "undelivered", "answer", "admit", "default", "oppose", "ruling", "appeal", "waive",
    "hearing", "stay", "step",
)
STEPS = ("deposit", "enforce", "restitute", "release")


def draw_complaint(random, config):
    """Draw a complaint; a few of them are rejected."""
    claimant = random.randint(0, 3)
    respondent = (claimant + random.choice((0, 1, 1, 2, 2, 3))) % 4
    claims = tuple(
        (random.randint(0, len(config[4]) - (random.random() < 0.95)), random.choice((10, 50, 51, 9999)))
        for _ in range(random.choice((1, 1, 2, 3)))
    )
    return "complaint", random.randint(0, 3), draw_tags(random), claimant, respondent, claims


def draw_issue(random, config, case):
    """Draw a pair of claim and issue, mostly one on which a bench may rule."""
    likely = list(remitted_in(case))
    if not likely:
        likely = [
            (claim, issue) for claim, (cause, *_) in enumerate(case[11])
            for issue in relevant_issues(config[4][cause], findings_of(case, claim))
        ]
    if likely and random.random() < 0.85:
        return random.choice(likely)
    return random.choice((random.choice(all_issues(case)), (random.randint(0, 3), random.randint(0, 9))))


def draw_ruling(random, config, case):
    """Draw a ruling, mostly with the number of votes of a bench."""
    claim, issue = draw_issue(random, config, case)
    court = court_at(config, case, case[12] if remitted_in(case) else 0)
    many = random.choice((court[1], court[1], court[1], court[1], court[2], random.randint(0, 9)))
    votes = "".join(random.choice("01") for _ in range(many))
    votes = random.choice((votes, "1" * many, "0" * many))
    tags = tuple(sorted(random.sample(case[3], random.randint(0, len(case[3])))))
    if random.random() < 0.05:
        tags = draw_tags(random)
    return "ruling", case[0], claim, issue, votes, tags


def draw_appeal(random, config, case):
    """Draw an appeal, mostly one that names what the party can name."""
    party = random.choice(PARTIES)
    if not nameable_issues(config, case, party):
        party = random.choice(PARTIES)
    nameable = nameable_issues(config, case, party)
    pairs = random.sample(nameable, random.randint(0, len(nameable)))
    if not pairs and nameable:
        pairs = [nameable[0]]
    if random.random() < 0.1:
        pairs.append(draw_issue(random, config, case))
    return "appeal", case[0], party, tuple(pairs)


def draw_admission(random, config, case):
    """Draw an admission, mostly of an undetermined issue by the opponent of its party."""
    pairs = [pair for pair in all_issues(case) if case[11][pair[0]][3][pair[1]][0] == "?"]
    if not pairs or random.random() < 0.1:
        return "admit", case[0], random.choice(PARTIES), random.randint(0, 3), random.randint(0, 9)
    claim, issue = random.choice(pairs)
    own = issues_of(config[4][case[11][claim][0]])[issue][3]
    party = PARTIES[own == "claimant"] if random.random() < 0.9 else own
    return "admit", case[0], party, claim, issue


def draw_step(random, case):
    word = random.choice(STEPS)
    claim = random.choice((0, 0, 0, random.randint(0, len(case[11]))))
    if claim < len(case[11]) and random.random() < 0.6:
        enforced, security = case[11][claim][2]
        word = "restitute" if enforced else ("enforce" if security else "deposit")
    if word == "deposit":
        return word, case[0], claim, random.choice((1, 60, 9999, 12000, 1000000))
    return word, case[0], claim


def draw_stay(random, case, day):
    first = max(0, day + random.randint(-1, 5))
    return "stay", case[0], first, max(0, first + random.choice((-1, 0, 0, 1, 4, 30, 31)))


def likely_words(case):
    """Return the words of filings that fit the stage of the case, with the likelier ones repeated."""
    if is_judged(case):
        if case[13][4] is not None:
            return ("hearing", "hearing", "appeal", "waive", "serve", "undelivered", "step")
        words = ("appeal", "appeal", "appeal", "serve", "undelivered", "step", "stay", "waive")
        if any(element[3] for claim in case[11] for element in claim[3]):
            words += ("oppose",) * 6
        return words
    if remitted_in(case) or case[12] > 0:
        return ("ruling", "ruling", "ruling", "ruling", "admit", "stay", "step")
    if case[6]:
        return ("ruling", "ruling", "ruling", "admit", "step")
    words = ("ruling", "ruling", "ruling", "admit", "answer", "serve", "undelivered")
    return words + ("default", "default", "default", "default") * bool(case[7])


def draw_filing(random, config, case, day):
    """Draw a filing in the case; most of them are accepted if the case is in a fitting stage."""
    word = random.choice(likely_words(case))
    if random.random() < 0.1:
        word = random.choice(WORDS)
    if word == "ruling":
        return draw_ruling(random, config, case)
    if word == "appeal":
        return draw_appeal(random, config, case)
    if word == "admit":
        return draw_admission(random, config, case)
    if word == "step":
        return draw_step(random, case)
    if word == "stay":
        return draw_stay(random, case, day)
    if word == "serve":
        return word, case[0], random.choice(PARTIES + ("respondent",)), random.choice(METHODS)
    if word == "undelivered":
        return word, case[0], random.choice(PARTIES + ("respondent",)), random.choice((0, 0, 0, 1, 1, 4))
    if word == "waive":
        return word, case[0], random.choice(PARTIES)
    return word, case[0]


def draw_day(random, day):
    return day + random.choice((0, 0, 0, 0, 0, 1, 1, 2, 5))


def draw_any_filing(random, config, cases, day):
    """Draw a filing for a docket with the cases."""
    if not cases or random.random() < (0.04 if len(cases) < 3 else 0.02):
        return draw_complaint(random, config)
    if random.random() < 0.05:
        return random.choice((("heartbeat",), ("answer", random.randint(0, 7)), ("hearing", 99)))
    return draw_filing(random, config, random.choice(cases), day)


def draw_docket(random, config, many):
    """Draw a docket that has processed so many filings."""
    docket = Docket(config)
    for _ in range(many):
        day = draw_day(random, docket.day)
        docket.file(day, draw_any_filing(random, config, docket.cases, day))
    return docket
