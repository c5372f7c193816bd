"""The rules: numbers 4 to 8."""

import itertools
import statistics
import unittest

from tests.calling import (
    INVALID, LARGEST, NO_AGENT, NOT_READY, build, create, outcome, outcomes_of, profiles, rankings, set_outcome, tell,
    use_borda, use_dictatorship, use_generalized_median, use_plurality, use_sequential_majority,
)

SIX_OF_FOUR = [[3, 1, 0, 2], [0, 1, 2, 3], [2, 3, 1, 0], [1, 0, 3, 2], [2, 0, 3, 1], [0, 3, 2, 1]]

# Agents, alternatives and the domain of each agent: all domains are full, but with four alternatives.
WHOLE = tuple(
    (agent_count, len(domain[0]), [domain] * agent_count)
    for agent_count in (1, 2, 3) for domain in (rankings(2), rankings(3), SIX_OF_FOUR)
) + (
    (3, 4, [SIX_OF_FOUR[:1], SIX_OF_FOUR[2:5], SIX_OF_FOUR[3:]]),
    (2, 3, [[[2, 0, 1]], [[1, 2, 0], [0, 2, 1]]]),
)


def reports(domains):
    return [list(reported) for reported in itertools.product(*domains)]


def before(ranking, one, other):
    return ranking.index(one) < ranking.index(other)


def borda_score(reported, alternative):
    others = [other for other in reported[0] if other != alternative]
    return sum(1 for ranking in reported for other in others if before(ranking, alternative, other))


def lowest_best(alternative_count, score):
    return sorted(range(alternative_count), key=lambda alternative: (-score(alternative), alternative))[0]


def last_of_agenda(reported, agenda):
    current = agenda[0]
    for challenger in agenda[1:]:
        votes = sum(1 if before(ranking, challenger, current) else -1 for ranking in reported)
        current = challenger if votes > 0 else current
    return current


class EachProfile(unittest.TestCase):
    """Each rule over all profiles, told in another way than the program tells it."""

    def check(self, case, rule, expected_of):
        agent_count, alternative_count, domains = case
        sizes = [len(domain) for domain in domains]
        calls = build(agent_count, alternative_count, domains) + [rule]
        self.assertEqual(tell(calls)[-1], 0)
        expected = [expected_of(reported) for reported in reports(domains)]
        self.assertEqual(outcomes_of(calls, sizes), expected, (case, rule))

    def test_dictatorship(self):
        for case in WHOLE:
            for agent in range(case[0]):
                self.check(case, use_dictatorship(agent), lambda reported: reported[agent][0])

    def test_generalized_median(self):
        for case in WHOLE:
            for phantoms in itertools.product(range(case[1]), repeat=case[0] - 1):
                self.check(
                    case, use_generalized_median(phantoms),
                    lambda reported: statistics.median([ranking[0] for ranking in reported] + list(phantoms)))

    def test_plurality(self):
        for case in WHOLE:
            self.check(
                case, use_plurality(),
                lambda reported: lowest_best(case[1], [ranking[0] for ranking in reported].count))

    def test_borda(self):
        for case in WHOLE:
            self.check(
                case, use_borda(),
                lambda reported: lowest_best(case[1], lambda alternative: borda_score(reported, alternative)))

    def test_sequential_majority(self):
        for case in WHOLE:
            for agenda in itertools.permutations(range(case[1])):
                self.check(
                    case, use_sequential_majority(agenda), lambda reported: last_of_agenda(reported, agenda))


class OneProfile(unittest.TestCase):
    """Single profiles, reckoned by hand."""

    def outcome(self, reported, rule):
        calls = build(len(reported), len(reported[0]), [[ranking] for ranking in reported])
        return tell(calls + [rule, outcome([0] * len(reported))])[-1]

    def test_dictatorship(self):
        reported = [[2, 0, 1], [1, 0, 2], [0, 1, 2]]
        self.assertEqual([self.outcome(reported, use_dictatorship(agent)) for agent in range(3)], [2, 1, 0])

    def test_generalized_median_of_two(self):
        reported = [[3, 0, 1, 2], [1, 0, 2, 3]]
        found = [self.outcome(reported, use_generalized_median([phantom])) for phantom in range(4)]
        self.assertEqual(found, [1, 1, 2, 3])

    def test_generalized_median_of_three(self):
        reported = [[3, 0, 1, 2], [1, 0, 2, 3], [1, 2, 0, 3]]
        rows = ([0, 0], [0, 3], [3, 0], [1, 2], [2, 3], [3, 2], [3, 3])
        found = [self.outcome(reported, use_generalized_median(row)) for row in rows]
        self.assertEqual(found, [1, 1, 1, 1, 2, 2, 3])

    def test_generalized_median_may_be_the_peak_of_no_agent(self):
        self.assertEqual(self.outcome([[0, 1, 2], [2, 1, 0]], use_generalized_median([1])), 1)

    def test_equal_phantoms_at_the_ends(self):
        reported = [[2, 1, 0, 3], [1, 2, 3, 0], [3, 2, 1, 0]]
        self.assertEqual(self.outcome(reported, use_generalized_median([0, 0])), 1)
        self.assertEqual(self.outcome(reported, use_generalized_median([1, 1])), 1)
        self.assertEqual(self.outcome(reported, use_generalized_median([2, 2])), 2)
        self.assertEqual(self.outcome(reported, use_generalized_median([3, 3])), 3)

    def test_plurality(self):
        self.assertEqual(self.outcome([[2, 0, 1], [2, 1, 0], [0, 1, 2]], use_plurality()), 2)
        self.assertEqual(self.outcome([[0, 1, 2], [1, 2, 0], [1, 0, 2]], use_plurality()), 1)

    def test_plurality_ties(self):
        self.assertEqual(self.outcome([[3, 2, 1, 0], [1, 2, 3, 0]], use_plurality()), 1)
        self.assertEqual(self.outcome([[1, 2, 3, 0], [3, 2, 1, 0]], use_plurality()), 1)
        self.assertEqual(self.outcome([[3, 2, 1, 0], [2, 1, 3, 0], [1, 3, 2, 0]], use_plurality()), 1)
        self.assertEqual(self.outcome([[1, 0], [0, 1]], use_plurality()), 0)

    def test_borda(self):
        # 0 has 2 + 2 + 0, 1 has 1 + 1 + 2, 2 has 0 + 0 + 1: 0 and 1 are equal.
        self.assertEqual(self.outcome([[0, 1, 2], [0, 1, 2], [1, 2, 0]], use_borda()), 0)
        # 0 has 2 + 0 + 0, 1 has 1 + 1 + 2, 2 has 0 + 2 + 1; plurality would choose 0.
        self.assertEqual(self.outcome([[0, 1, 2], [2, 1, 0], [1, 2, 0]], use_borda()), 1)
        # 3 has 3 + 0, 2 has 2 + 3, 1 has 1 + 2, 0 has 0 + 1.
        self.assertEqual(self.outcome([[3, 2, 1, 0], [2, 1, 0, 3]], use_borda()), 2)

    def test_borda_may_choose_the_peak_of_no_agent(self):
        # 0 has 3 + 0, 1 has 2 + 2, 2 has 0 + 1, 3 has 1 + 3: the last is equal to 1, and the higher number.
        self.assertEqual(self.outcome([[0, 1, 3, 2], [3, 1, 2, 0]], use_borda()), 1)

    def test_borda_ties(self):
        self.assertEqual(self.outcome([[2, 1, 0], [0, 1, 2]], use_borda()), 0)
        self.assertEqual(self.outcome([[2, 1, 0], [1, 2, 0]], use_borda()), 1)
        self.assertEqual(self.outcome([[2, 0, 1], [1, 2, 0], [0, 1, 2]], use_borda()), 0)
        self.assertEqual(self.outcome([[1, 0], [0, 1]], use_borda()), 0)

    def test_sequential_majority_of_a_cycle(self):
        # 0 beats 1, 1 beats 2 and 2 beats 0, each with two agents of three.
        reported = [[0, 1, 2], [1, 2, 0], [2, 0, 1]]
        agendas = ([0, 1, 2], [1, 0, 2], [0, 2, 1], [2, 0, 1], [1, 2, 0], [2, 1, 0])
        found = [self.outcome(reported, use_sequential_majority(agenda)) for agenda in agendas]
        self.assertEqual(found, [2, 2, 1, 1, 0, 0])

    def test_sequential_majority_of_two_agents(self):
        # One of two agents is not more than half: the current alternative stays.
        reported = [[0, 1, 2], [2, 1, 0]]
        for agenda in rankings(3):
            self.assertEqual(self.outcome(reported, use_sequential_majority(agenda)), agenda[0])
        reported = [[1, 0, 2], [1, 2, 0]]
        for agenda in rankings(3):
            self.assertEqual(self.outcome(reported, use_sequential_majority(agenda)), 1)

    def test_one_agent_gets_its_peak(self):
        for ranking in rankings(4):
            rules = [use_dictatorship(0), use_generalized_median([]), use_plurality(), use_borda()]
            rules += [use_sequential_majority(agenda) for agenda in rankings(4)]
            self.assertEqual([self.outcome([ranking], rule) for rule in rules], [ranking[0]] * len(rules))

    def test_the_lowest_alternative_is_no_default(self):
        reported = [[3, 2, 1, 0]] * 3
        rules = [use_dictatorship(2), use_generalized_median([0, 0]), use_plurality(), use_borda()]
        rules += [use_sequential_majority([0, 1, 2, 3]), use_sequential_majority([3, 0, 1, 2])]
        self.assertEqual([self.outcome(reported, rule) for rule in rules], [3] * len(rules))


class AllOutcomesEqual(unittest.TestCase):
    def test_same_peak_in_all_domains(self):
        domains = [[[2, 0, 1], [2, 1, 0]]] * 2
        for rule in (use_plurality(), use_dictatorship(1), use_generalized_median([0]), use_borda()):
            self.assertEqual(outcomes_of(build(2, 3, domains) + [rule], (2, 2)), [2] * 4)

    def test_a_rule_behind_another_sets_every_outcome(self):
        calls = build(2, 2, [rankings(2)] * 2)
        calls += [set_outcome(1, profile) for profile in profiles((2, 2))]
        self.assertEqual(outcomes_of(calls, (2, 2)), [1] * 4)
        self.assertEqual(outcomes_of(calls + [use_generalized_median([0])], (2, 2)), [0, 0, 0, 1])
        self.assertEqual(outcomes_of(calls + [use_generalized_median([1])], (2, 2)), [0, 1, 1, 1])


class Refusals(unittest.TestCase):
    def check(self, case, rule, expected):
        """A rule that succeeds sets all outcomes; one that is refused leaves them."""
        agent_count, alternative_count, domains = case
        sizes = [len(domain) for domain in domains]
        calls = build(agent_count, alternative_count, domains)
        calls += [set_outcome(1, profile) for profile in profiles(sizes)[::2]]
        found = outcomes_of(calls, sizes)
        self.assertEqual(found, [1 - place % 2 for place in range(len(found))])
        with self.subTest(agents=agent_count, alternatives=alternative_count, rule=rule):
            self.assertEqual(tell(calls + [rule])[-1], expected)
            if expected != 0:
                self.assertEqual(outcomes_of(calls + [rule], sizes), found)

    def cases(self):
        for agent_count in (1, 2, 3):
            for alternative_count in (2, 3, 4):
                yield agent_count, alternative_count, [rankings(alternative_count)[:2]] * agent_count

    def test_the_dictator_does_not_exist(self):
        for case in self.cases():
            for agent in (0, 1, 2, 3, 4, LARGEST - 1, LARGEST):
                self.check(case, use_dictatorship(agent), 0 if agent < case[0] else NO_AGENT)

    def test_phantoms(self):
        for case in self.cases():
            for size in range(9):
                for number in (0, 1, 2, 3, 4, LARGEST - 1, LARGEST):
                    good = size == case[0] - 1 and (size == 0 or number < case[1])
                    self.check(case, use_generalized_median([number] * size), 0 if good else INVALID)

    def test_one_phantom_is_no_alternative(self):
        for case in self.cases():
            for place in range(case[0] - 1):
                for number in (case[1], LARGEST):
                    phantoms = [case[1] - 1] * (case[0] - 1)
                    self.check(case, use_generalized_median(phantoms), 0)
                    phantoms[place] = number
                    self.check(case, use_generalized_median(phantoms), INVALID)

    def test_agendas(self):
        rows = [list(row) for size in range(5) for row in itertools.product(range(4), repeat=size)]
        for alternative_count in (2, 3, 4):
            good = rankings(alternative_count)
            calls = build(1, alternative_count, [good[-1:]])
            for row in rows:
                found = tell(calls + [use_sequential_majority(row), outcome([0])])[-2:]
                self.assertEqual(found, [0, good[-1][0]] if row in good else [INVALID, 0], (alternative_count, row))

    def test_agendas_that_are_long_or_hold_large_numbers(self):
        for case in self.cases():
            agenda = list(range(case[1]))
            rows = [[], agenda[1:], agenda[:-1], agenda + [0], agenda + [case[1]], [0] * 8, list(range(8))]
            rows += [[LARGEST] * 8, [LARGEST] * case[1], [0] * case[1], agenda + agenda[:1], (agenda * 4)[:8]]
            for place in range(case[1]):
                rows += [agenda[:place] + [number] + agenda[place + 1:] for number in (case[1], LARGEST)]
            for row in rows:
                self.check(case, use_sequential_majority(row), INVALID)

    def test_a_domain_is_empty(self):
        rules = (use_dictatorship(0), use_generalized_median([0]), use_plurality(), use_borda())
        for rule in rules + (use_sequential_majority([0, 1]),):
            for domains in ([[], []], [[[0, 1]], []], [[], [[0, 1]]]):
                with self.subTest(rule=rule, domains=domains):
                    self.assertEqual(tell(build(2, 2, domains) + [rule])[-1], NOT_READY)
            self.assertEqual(tell([create(3, 4), rule])[-1], NOT_READY)


if __name__ == "__main__":
    unittest.main()
