"""Points 203, 211, 226, 260 and 261: what follows from the points, over drawn cases and further filings."""

import random
import unittest
from heapq import heappop, heappush
from itertools import combinations

from casedraw import draw_case, draw_config, draw_small_rules, sound_cases
from casemodel import BOTH, Model, is_no_less
from courtroom import draw_any_filing, draw_day, draw_filing
from exact import ExactCase
from overturn.cases import flaw, nameable_issues
from overturn.dockets import Docket
from overturn.filings import contrary_votes, processed
from overturn.reports import final_claims
from overturn.reversals import current_grounds, is_final, issue_costs, reversal_cost
from rooms import HIGH, LOW, MIDDLE, case_as, claim_as, config_of, court, judged, other_party
from trees import INFINITE, is_win, number_of, relevant_by_definition, total_number

MOST_STATES = 1500


def draw_small_case(draw):
    """Draw a configuration and a case from which not too many states can be reached."""
    config = draw_config(draw, courts=3, issues=2)
    rules = draw_small_rules(draw)[:2] + (draw.randint(1, 2), draw.randint(1, 3), 0, 0, 1)
    courts = tuple(
        court(one, bench=min(one[1], 3), full_bench=min(one[2], max(3, one[1])), days=draw.randint(1, 2))
        for one in config[3]
    )
    config = (rules, 1, 1000, courts) + config[4:]
    while True:
        case = draw_case(draw, config)
        if len(case[11]) <= 2 and len(case[8]) <= 1 and all(row[0] < 9 for row in case[8]):
            return config, case


def some_filings(config, case, day):
    """Return filings of every kind that may be accepted, enough to reach everything that matters."""
    model = Model(config, case)
    filings = [("answer",), ("default",), ("oppose",), ("hearing",)]
    for party in BOTH:
        filings.append(("waive", party))
        nameable = nameable_issues(config, case, party)
        for many in range(1, len(nameable) + 1):
            filings += [("appeal", party, pairs) for pairs in combinations(nameable, many)]
        filings += [("admit", party, *pair) for pair in model.pairs if model.element(pair)["finding"] == "?"]
        if model.is_judged and not model.stage[2][BOTH.index(party)]:
            filings.append(("serve", party, "hand"))
    remitted = () if model.is_judged else model.stage[1]
    level = model.level if remitted else 0
    benches = sorted(set(model.courts[model.chain[level]][1:3]))
    open_issues = remitted or [
        (claim, issue) for claim, (cause, *_) in enumerate(model.claims)
        for issue in relevant_by_definition(model.causes[cause], model.findings(claim))
    ]
    for pair in open_issues if not model.is_judged else ():
        for bench in benches:
            for ones in range(bench + 1):
                filings.append(("ruling", *pair, "1" * ones + "0" * (bench - ones), ()))
    return [(word, case[0], *rest) for word, *rest in filings]


def least_votes(config, case, day, claim, party, last):
    """Return the least contrary votes behind which the party has won, for each level; None if too many states.

    The search goes through all states that the filings lead to from the day up to the last one."""
    seen, found, order = {}, {}, 0
    queue = [(0, order, day, case)]
    while queue:
        votes, _, today, here = heappop(queue)
        if (today, here) in seen:
            continue
        seen[today, here] = votes
        if len(seen) > MOST_STATES:
            return None
        if Model(config, here).winner(claim) == party:
            found[here[12]] = min(votes, found.get(here[12], INFINITE))
        if today < last:
            order += 1
            heappush(queue, (votes, order, today + 1, here))
        for filing in some_filings(config, here, today):
            reason, _, behind = processed(config, here, today, filing)
            if reason is None and (today, behind) not in seen:
                order += 1
                added = contrary_votes(config, here, today, filing, claim)
                heappush(queue, (votes + added, order, today, behind))
    return found


class ReversalCosts(ExactCase):

    def test_the_least_votes_of_all_further_filings(self):
        draw = random.Random(260)
        done, finite = 0, 0
        for _ in range(160):
            config, case = draw_small_case(draw)
            day = max(case[1], case[13][1] if case[13][0] == "judged" else 0)
            claim, party = draw.randrange(len(case[11])), draw.choice(BOTH)
            found = least_votes(config, case, day, claim, party, day + draw.choice((0, 0, 2, 4)))
            if found is None:
                continue
            done += 1
            for up_to in (0, 1, 2, None):
                levels = [
                    votes for level, votes in found.items()
                    if up_to is None or level <= max(up_to, case[12])
                ]
                cost = reversal_cost(config, case, day, claim, party, up_to=up_to)[0]
                expected = min(levels, default=INFINITE)
                self.assertExact(number_of(cost), expected, (config, case, day, claim, party, up_to))
                finite += cost not in (None, 0)
        self.assertGreater(done, 80)
        self.assertGreater(finite, 40)

    def test_no_drawn_filings_win_with_fewer_votes(self):
        won = 0
        for draw, config, case, day in sound_cases(261, 500, courts=3, issues=3):
            claim, party = draw.randrange(len(case[11])), draw.choice(BOTH)
            up_to = draw.choice((None, 0, 1))
            top = len(case[5]) - 1 if up_to is None else up_to
            cost = number_of(reversal_cost(config, case, day, claim, party, up_to=up_to)[0])
            here, today, votes = case, day, 0
            for _ in range(25):
                today = draw_day(draw, today)
                filing = draw_filing(draw, config, here, today)
                added = contrary_votes(config, here, today, filing, claim)
                _, _, here = processed(config, here, today, filing)
                votes += added
                self.assertExact(flaw(config, here), None)
                if here[12] <= max(top, case[12]):
                    rest = number_of(reversal_cost(config, here, today, claim, party, up_to=up_to)[0])
                    self.assertGreaterEqual(votes + rest, cost, (config, case, day, claim, party, up_to))
                    if Model(config, here).winner(claim) == party:
                        won += votes > 0
                        self.assertGreaterEqual(votes, cost)
        self.assertGreater(won, 5)

    def test_each_filing_lowers_the_cost_by_at_most_its_contrary_votes(self):
        lowered = 0
        for draw, config, case, day in sound_cases(226, 900, courts=3):
            filing = draw_filing(draw, config, case, day)
            _, _, behind = processed(config, case, day, filing)
            for claim in range(len(case[11])):
                votes = contrary_votes(config, case, day, filing, claim)
                for party in BOTH:
                    for up_to in (None, 0, 1, 2):
                        if up_to is not None and behind[12] > max(up_to, case[12]):
                            continue
                        before = reversal_cost(config, case, day, claim, party, up_to=up_to)[0]
                        after = reversal_cost(config, behind, day, claim, party, up_to=up_to)[0]
                        told = (config, case, day, filing, claim, party, up_to)
                        self.assertGreaterEqual(number_of(after) + votes, number_of(before), told)
                        lowered += not is_no_less(after, before)
        self.assertGreater(lowered, 20)


class FinalClaims(ExactCase):

    def test_a_final_claim_stays_final_with_its_winner(self):
        finals = 0
        for draw, config, case, day in sound_cases(262, 500):
            model = Model(config, case)
            final = {c: model.winner(c) for c in range(len(case[11])) if is_final(config, case, day, c)}
            finals += len(final)
            here, today = case, day
            for _ in range(20):
                for claim, winner in final.items():
                    self.assertExact(is_final(config, here, today, claim), True)
                    self.assertExact(Model(config, here).winner(claim), winner)
                today = draw_day(draw, today)
                _, _, here = processed(config, here, today, draw_filing(draw, config, here, today))
        self.assertGreater(finals, 100)

    def test_a_claim_that_is_not_final_can_be_won_by_the_other_party(self):
        draw = random.Random(263)
        lost = 0
        for _ in range(120):
            config, case = draw_small_case(draw)
            day = max(case[1], case[13][1] if case[13][0] == "judged" else 0)
            claim = draw.randrange(len(case[11]))
            winner = Model(config, case).winner(claim)
            if winner is None:
                continue
            found = least_votes(config, case, day, claim, other_party(winner), day + 3)
            if found is not None:
                self.assertExact(is_final(config, case, day, claim), found == {}, (config, case))
                lost += 1
        self.assertGreater(lost, 30)

    def test_a_later_day_never_lowers_the_cost(self):
        for draw, config, case, day in sound_cases(264, 500):
            for claim in range(len(case[11])):
                for party in BOTH:
                    costs = [
                        reversal_cost(config, case, later, claim, party)[0]
                        for later in (day, day + 1, day + draw.randint(2, 30))
                    ]
                    self.assertTrue(is_no_less(costs[1], costs[0]))
                    self.assertTrue(is_no_less(costs[2], costs[1]))


class Grounds(ExactCase):

    def test_no_weighted_assignments_weigh_more(self):
        for draw, config, case, day in sound_cases(265, 500):
            claim = draw.randrange(len(case[11]))
            winner = Model(config, case).winner(claim)
            if winner is None:
                continue
            cause = config[4][case[11][claim][0]]
            costs = issue_costs(config, case, day, claim)
            cost = reversal_cost(config, case, day, claim, other_party(winner))[0]
            self.assertExact(total_number(current_grounds(config, case, day, claim)), number_of(cost))
            # Any winning assignments, each with as much weight as the capacities let.
            left = {(i, letter): number_of(pair[letter == "1"]) for i, pair in enumerate(costs) for letter in "01"}
            total = 0
            for _ in range(12):
                assignment = "".join(draw.choice("01?") for _ in costs)
                if not is_win(cause, assignment, winner):
                    continue
                places = [(i, letter) for i, letter in enumerate(assignment) if letter != "?"]
                weight = min([left[place] for place in places])
                if weight == INFINITE:
                    total = INFINITE
                    break
                weight = draw.choice((weight, weight // 2))
                total += weight
                for place in places:
                    left[place] -= weight
            self.assertLessEqual(total, number_of(cost), (config, case, day, claim))


class Enforcement(ExactCase):

    def test_what_is_enforced_is_secured_or_final(self):
        draw = random.Random(2610)
        enforced = restituted = 0
        for _ in range(120):
            config = draw_config(draw, courts=3)
            docket = Docket(config)
            for _ in range(60):
                day = draw_day(draw, docket.day)
                docket.file(day, draw_any_filing(draw, config, docket.cases, day))
                finals = final_claims(config, docket.cases, docket.day)
                for case in docket.cases:
                    self.assertExact(flaw(config, case), None)
                    for claim, (_, _, (amount, security), _) in enumerate(case[11]):
                        winner = Model(config, case).winner(claim)
                        if amount > security:
                            self.assertExact(winner, "claimant")
                            self.assertIn((case[0], claim), finals)
                        enforced += amount > 0
                        if amount > 0 and winner == "respondent":
                            restituted += 1
                            told = docket.rehearse(((docket.day, ("restitute", case[0], claim)),))
                            self.assertExact(told, ((None, (amount,)),))
        self.assertGreater(enforced, 50)

    def test_a_restitution_behind_a_reversal(self):
        config = config_of("a", courts=(HIGH, MIDDLE, LOW))
        case = case_as(claim_as("0", account=(100, 100)), level=1, stage=judged(3))
        self.assertExact(flaw(config, case), None)
        told = processed(config, case, 3, ("restitute", 0, 0))
        self.assertExact(told[:2], (None, (100,)))


if __name__ == "__main__":
    unittest.main()
