"""Drawn requests over all calls, held against answers that are worked out in another way."""

import collections
import random
import unittest

from tests.calling import (
    LARGEST, add_preference, ask, count_manipulations, create, describe, dictators, find_manipulation,
    inefficient_profile, is_single_peaked, monotonicity_violation, option_set, outcome, outcome_range, rankings,
    set_full_domain, set_outcome, use_borda, use_dictatorship, use_generalized_median, use_plurality,
    use_sequential_majority,
)
from tests.reference import Reference, expected_answers

REQUESTS = 5000

# Each way in which each call can be answered, as far as answers are told apart here.
ALL_WAYS = {(number, -11) for number in range(1, 19)} | {(number, -16) for number in range(3, 17)}
ALL_WAYS |= {(number, -2) for number in (1, 2, 4, 10, 12, 17)} | {(number, -22) for number in (0, 1, 3, 5, 8, 9, 10)}
ALL_WAYS |= {(1, -17), (1, -28), (2, -28), (11, -33)}
ALL_WAYS |= {(number, "answered") for number in range(19) if number not in (14, 15, 16, 17)}
ALL_WAYS |= {(number, way) for number in (14, 15, 16, 17) for way in ("some", "none")}


class Drawer:
    """Draws the calls of one request, one behind another, and knows what each has to answer."""

    def __init__(self, seed):
        self.draw = random.Random(seed)
        self.reference = Reference()
        self.limit = self.draw.choice((1, 4, 8, 8, 12, 16, 24, 36))
        self.calls = []
        self.expected = []

    def add(self, call):
        self.calls.append(call)
        self.expected.append(self.reference.answer(call))

    def rarely(self, chance=0.06):
        return self.draw.random() < chance

    # What is passed: mostly good, now and then not.

    def number(self, count):
        if self.rarely():
            return self.draw.choice((count, count + 1, 2 ** 31, LARGEST))
        return self.draw.randrange(max(1, count))

    def row(self, good):
        if not self.rarely(0.1):
            return good
        way = self.draw.randrange(4)
        if way == 0:
            return good[1:]
        if way == 1:
            return good + [self.draw.randrange(3)]
        if way == 2:
            return [self.draw.choice((0, 1, 2, LARGEST)) for place in range(self.draw.randrange(9))]
        return [self.draw.choice((0, 1, 2, 3, 6, LARGEST)) if self.rarely(0.5) else number for number in good]

    def agent(self):
        return self.number(self.agent_count())

    def agent_count(self):
        return len(self.reference.domains or [])

    def alternative_count(self):
        return len(self.reference.alternatives or [])

    def ranking(self):
        return self.draw.choice(rankings(self.alternative_count() or 3))

    def profile(self):
        return [self.draw.randrange(max(1, len(domain))) for domain in self.reference.domains or [[]]]

    # Calls.

    def begin(self):
        if self.rarely(0.2):
            self.add(self.any_call())
        if self.rarely(0.1):
            self.add(create(self.draw.choice((0, 4, LARGEST, 2)), self.draw.choice((0, 1, 5, LARGEST))))
            self.add(self.any_call())
        self.add(create(self.draw.randint(1, 3), self.draw.randint(2, 4)))
        for agent in range(self.agent_count()):
            if not self.rarely(0.02):
                self.fill(agent)

    def profile_count(self, agent, size):
        """How many profiles there are if this agent had a domain of this size, empty domains left aside."""
        count = size
        for other, domain in enumerate(self.reference.domains):
            if other != agent:
                count *= max(1, len(domain))
        return count

    def fill(self, agent):
        known = rankings(self.alternative_count())
        if self.rarely(0.3):
            # Single-peaked: what lies ahead of each place stands side by side.
            known = [row for row in known if all(
                max(row[:place]) - min(row[:place]) < place for place in range(1, len(row) + 1))]
        size = self.draw.randint(1, min(6, len(known)))
        while self.profile_count(agent, size) > max(self.limit, self.profile_count(agent, 1)):
            size -= 1
        if size == len(rankings(self.alternative_count())) and self.rarely(0.5):
            self.add(set_full_domain(agent))
        else:
            for row in self.draw.sample(known, size):
                self.add(add_preference(agent, row))

    def grow(self):
        agent = self.agent()
        if agent >= self.agent_count():
            return self.draw.choice((add_preference(agent, self.row(self.ranking())), set_full_domain(agent)))
        if self.rarely(0.3) and (self.alternative_count() == 4 or self.profile_count(agent, 6) <= self.limit):
            return set_full_domain(agent)
        if self.profile_count(agent, len(self.reference.domains[agent]) + 1) > self.limit:
            return add_preference(agent, self.draw.choice(self.reference.domains[agent] or [[]]))
        return add_preference(agent, self.row(self.ranking()))

    def any_rule(self):
        alternatives = self.alternative_count()
        phantoms = [self.number(alternatives) for agent in range(self.agent_count() - 1)]
        return self.draw.choice((
            use_dictatorship(self.agent()), use_generalized_median(self.row(phantoms)), use_plurality(), use_borda(),
            use_sequential_majority(self.row(self.ranking()))))

    def any_question(self):
        return self.draw.choice((
            outcome(self.row(self.profile())), option_set(self.agent(), self.row(self.profile())), find_manipulation(),
            count_manipulations(self.agent()), outcome_range(), dictators(), monotonicity_violation(),
            inefficient_profile(), is_single_peaked(self.agent()), describe()))

    def any_call(self):
        way = self.draw.random()
        if way < 0.15:
            return set_outcome(self.number(self.alternative_count()), self.row(self.profile()))
        if way < 0.3:
            return self.any_rule()
        if way < 0.4:
            return self.grow()
        if way < 0.42:
            return create(self.draw.randrange(5), self.draw.randint(1, 5))
        return self.any_question()

    def set_all_outcomes(self):
        alternatives = self.draw.sample(range(self.alternative_count()), self.draw.randint(1, 2))
        for profile in self.reference.profiles():
            self.add(set_outcome(self.draw.choice(alternatives), profile))

    def request(self, length):
        self.begin()
        for step in range(length):
            if self.rarely(0.05):
                self.set_all_outcomes()
            self.add(self.any_call())
        return self.calls[:400], self.expected[:400]


def ways(calls, expected):
    """Of each call, the way in which it is answered."""
    for call, answer in zip(calls, expected):
        if answer[0] < 0:
            yield call[0], answer[0]
        elif call[0] in (14, 15, 16, 17):
            yield call[0], "some" if answer[0] > 0 else "none"
        else:
            yield call[0], "answered"


class DrawnRequests(unittest.TestCase):
    def test_each_request_is_answered_as_the_document_says(self):
        seen = collections.Counter()
        for seed in range(REQUESTS):
            calls, expected = Drawer(seed).request(25)
            self.assertEqual(ask(calls), expected, (seed, calls))
            seen.update(ways(calls, expected))
        self.assertEqual({way for way in ALL_WAYS if seen[way] < 5}, set())
        self.assertEqual(set(seen) - ALL_WAYS, set())

    def test_requests_of_four_hundred_calls(self):
        for seed in range(REQUESTS, REQUESTS + 8):
            calls, expected = Drawer(seed).request(400)
            self.assertEqual(len(calls), 400)
            self.assertEqual(ask(calls), expected, seed)


class EndsOfNumbers(unittest.TestCase):
    """Each number and each element at its ends, and lists of each length, for each call that passes any."""

    STATES = (
        [],
        [create(2, 3), add_preference(1, [2, 0, 1])],
        [create(1, 2), set_full_domain(0)],
        [create(2, 3), set_full_domain(0), set_full_domain(1), use_plurality()],
        [create(3, 4)] + [
            add_preference(agent, row) for agent in range(3) for row in ([3, 0, 1, 2], [1, 2, 3, 0])] + [use_borda()],
    )
    NUMBERS = (0, 1, 2, 3, 4, 5, 6, LARGEST - 1, LARGEST)

    def check(self, calls):
        for state in self.STATES:
            for call in calls:
                asked = state + [call, describe()]
                self.assertEqual(ask(asked), expected_answers(asked), asked)

    def rows(self):
        rows = [[number] * size for size in range(9) for number in (0, 1, LARGEST)]
        rows += [list(range(size)) for size in range(2, 9)]
        for good in ([1], [1, 1], [1, 1, 1], [1, 0], [2, 0, 1], [3, 0, 1, 2]):
            for place in range(len(good)):
                rows += [good[:place] + [number] + good[place + 1:] for number in self.NUMBERS]
        return rows

    def test_numbers(self):
        self.check([create(first, second) for first in self.NUMBERS for second in self.NUMBERS])
        for call in (set_full_domain, use_dictatorship, count_manipulations, is_single_peaked):
            self.check([call(number) for number in self.NUMBERS])

    def test_rows(self):
        for call in (use_generalized_median, use_sequential_majority, outcome):
            self.check([call(row) for row in self.rows()])

    def test_numbers_with_rows(self):
        for call in (add_preference, set_outcome, option_set):
            self.check([call(number, row) for number in (0, 1, 2, 3, LARGEST) for row in self.rows()])


if __name__ == "__main__":
    unittest.main()
