"""The requirements 1 to 5. Requirement 6 stands in test_refusals.py."""

import itertools
import random
import unittest

from tests.calling import (
    NO_MANIPULATION, ask, build, changes_to, count_manipulations, dictators, find_manipulation, full_domains,
    inefficient_profile, is_single_peaked, last_answer, monotonicity_violation, option_set, outcome, outcome_range,
    profiles, rankings, set_outcome, use_borda, use_dictatorship, use_generalized_median, use_plurality,
    use_sequential_majority, with_outcomes,
)

SINGLE_PEAKED_OF_THREE = [[0, 1, 2], [1, 0, 2], [1, 2, 0], [2, 1, 0]]
SINGLE_PEAKED_OF_FOUR = [
    [2, 3, 1, 0], [0, 1, 2, 3], [1, 2, 3, 0], [3, 2, 1, 0], [2, 1, 0, 3], [1, 0, 2, 3], [1, 2, 0, 3], [2, 1, 3, 0]]
SIX_OF_FOUR = [[3, 1, 0, 2], [0, 1, 2, 3], [2, 3, 1, 0], [1, 0, 3, 2], [2, 0, 3, 1], [0, 3, 2, 1]]
MANY = 80


def is_strategy_proof(calls):
    return last_answer(calls + [find_manipulation()]) == [NO_MANIPULATION]


def has_dictator(calls):
    return last_answer(calls + [dictators()])[0] > 0


def is_monotonic(calls):
    return last_answer(calls + [monotonicity_violation()]) == [0]


def range_size(calls):
    return last_answer(calls + [outcome_range()])[1]


def drawn_domains(draw, largest=3):
    """Domains of one to three agents, with few profiles enough that all outcomes can be set and asked for."""
    all_rankings = rankings(draw.choice((2, 3, 4)))
    sizes = [draw.randint(1, min(largest, len(all_rankings))) for agent in range(draw.randint(1, 3))]
    return [draw.sample(all_rankings, size) for size in sizes]


def drawn_function(draw, domains):
    """Calls that set each outcome apart; often but a few of the alternatives occur."""
    alternatives = draw.sample(domains[0][0], draw.randint(1, len(domains[0][0])))
    sizes = [len(domain) for domain in domains]
    return with_outcomes(domains, [draw.choice(alternatives) for profile in profiles(sizes)])


def all_functions(domains):
    alternatives = sorted(domains[0][0])
    count = len(profiles([len(domain) for domain in domains]))
    for selected in itertools.product(alternatives, repeat=count):
        yield with_outcomes(domains, selected)


def rules(agent_count, alternative_count):
    """Each rule with each list that it may be handed."""
    alternatives = range(alternative_count)
    calls = [use_dictatorship(agent) for agent in range(agent_count)] + [use_plurality(), use_borda()]
    calls += [use_generalized_median(row) for row in itertools.product(alternatives, repeat=agent_count - 1)]
    return calls + [use_sequential_majority(agenda) for agenda in itertools.permutations(alternatives)]


def full_domain_functions(agent_count, alternative_count):
    """Functions on full domains: each rule, each rule but for a few outcomes, and functions drawn whole."""
    draw = random.Random(10 * agent_count + alternative_count)
    built = full_domains(agent_count, alternative_count)
    asked = profiles([len(rankings(alternative_count))] * agent_count)
    for rule in rules(agent_count, alternative_count):
        yield built + [rule]
        for number in range(3):
            changed = draw.sample(asked, draw.randint(1, min(3, len(asked))))
            yield built + [rule] + changes_to(changed, [draw.randrange(alternative_count) for profile in changed])
    for number in range(MANY):
        yield built + changes_to(asked, [draw.randrange(alternative_count) for profile in asked])


class BestOptions(unittest.TestCase):
    """Requirement 1."""

    def everybody_gets_the_best_option(self, calls, domains):
        asked = profiles([len(domain) for domain in domains])
        queries = []
        for profile in asked:
            queries += [outcome(profile)] + [option_set(agent, profile) for agent in range(len(domains))]
        told = [answer for answer, in ask(calls + queries)[len(calls):]]
        for profile in asked:
            selected = told.pop(0)
            for agent, domain in enumerate(domains):
                options = told.pop(0)
                best = [x for x in domain[profile[agent]] if options & 2 ** x][0]
                if selected != best:
                    return False
        return True

    def check(self, calls, domains):
        expected = self.everybody_gets_the_best_option(calls, domains)
        self.assertEqual(is_strategy_proof(calls), expected, calls)
        counts = [last_answer(calls + [count_manipulations(agent)])[0] for agent in range(len(domains))]
        self.assertEqual(counts == [0] * len(domains), expected, calls)
        return expected

    def test_drawn_functions(self):
        draw = random.Random(1)
        found = []
        for number in range(500):
            domains = drawn_domains(draw)
            found.append(self.check(drawn_function(draw, domains), domains))
        self.assertGreater(found.count(True), 50)
        self.assertGreater(found.count(False), 50)

    def test_each_rule_over_drawn_domains(self):
        draw = random.Random(2)
        found = []
        for number in range(30):
            domains = drawn_domains(draw)
            for rule in rules(len(domains), len(domains[0][0])):
                calls = build(len(domains), len(domains[0][0]), domains) + [rule]
                found.append(self.check(calls, domains))
        self.assertGreater(found.count(True), 50)
        self.assertGreater(found.count(False), 20)

    def test_all_functions_of_two_agents_and_two_alternatives(self):
        domains = [rankings(2)] * 2
        found = [self.check(calls, domains) for calls in all_functions(domains)]
        # The two constants, the two dictatorships, and the medians with the phantoms 0 and 1.
        self.assertEqual((len(found), found.count(True)), (16, 6))


class GibbardSatterthwaite(unittest.TestCase):
    """Requirement 2: full domains and a range of three alternatives."""

    def check(self, functions):
        """How many of the functions with three outcomes have a dictator, and how many have none."""
        found = []
        for calls in functions:
            if range_size(calls) == 3:
                found.append(has_dictator(calls))
                self.assertEqual(is_strategy_proof(calls), found[-1], calls)
        return found.count(True), found.count(False)

    def test_all_functions_of_one_agent(self):
        # Each of the three alternatives has to be the outcome of its two preferences.
        self.assertEqual(self.check(all_functions([rankings(3)])), (1, 3 ** 6 - 3 * 2 ** 6 + 3 - 1))

    def test_two_agents(self):
        with_dictator, without = self.check(full_domain_functions(2, 3))
        self.assertGreaterEqual(with_dictator, 2)
        self.assertGreater(without, MANY)

    def test_three_agents(self):
        with_dictator, without = self.check(full_domain_functions(3, 3))
        self.assertGreaterEqual(with_dictator, 3)
        self.assertGreater(without, MANY)

    def test_each_dictatorship_and_each_other_outcome_of_one_profile(self):
        built = full_domains(2, 3)
        for agent in (0, 1):
            calls = built + [use_dictatorship(agent)]
            self.assertEqual(last_answer(calls + [dictators()]), [1, agent])
            self.assertTrue(is_strategy_proof(calls))
            for profile in profiles((6, 6)):
                peak = rankings(3)[profile[agent]][0]
                for other in [x for x in range(3) if x != peak]:
                    changed = calls + [set_outcome(other, profile)]
                    self.assertFalse(has_dictator(changed), (agent, profile, other))
                    self.assertFalse(is_strategy_proof(changed), (agent, profile, other))

    def test_a_range_of_two_has_no_need_of_a_dictator(self):
        calls = full_domains(3, 2) + [use_plurality()]
        self.assertEqual(range_size(calls), 2)
        self.assertTrue(is_strategy_proof(calls))
        self.assertFalse(has_dictator(calls))

    def test_without_full_domains_there_need_not_be_a_dictator(self):
        calls = build(2, 3, [SINGLE_PEAKED_OF_THREE] * 2) + [use_generalized_median([1])]
        self.assertEqual(range_size(calls), 3)
        self.assertTrue(is_strategy_proof(calls))
        self.assertFalse(has_dictator(calls))


class MullerSatterthwaite(unittest.TestCase):
    """Requirement 3."""

    def test_no_manipulation_then_no_violation(self):
        draw = random.Random(3)
        found = []
        for number in range(700):
            calls = drawn_function(draw, drawn_domains(draw))
            if is_strategy_proof(calls):
                found.append(range_size(calls))
                self.assertTrue(is_monotonic(calls), calls)
        self.assertGreater(len(found), 100)
        self.assertGreater(len([size for size in found if size > 1]), 20)

    def test_no_manipulation_by_a_rule_then_no_violation(self):
        draw = random.Random(4)
        found = 0
        for number in range(30):
            domains = drawn_domains(draw)
            for rule in rules(len(domains), len(domains[0][0])):
                calls = build(len(domains), len(domains[0][0]), domains) + [rule]
                if is_strategy_proof(calls):
                    found += 1
                    self.assertTrue(is_monotonic(calls), calls)
        self.assertGreater(found, 50)

    def check_both_ways(self, functions):
        found = []
        for calls in functions:
            found.append(is_strategy_proof(calls))
            self.assertEqual(is_monotonic(calls), found[-1], calls)
        return found.count(True), found.count(False)

    def test_all_functions_of_full_domains_that_are_few(self):
        # For one agent the best of each set of alternatives is strategy-proof, and nothing else is.
        self.assertEqual(self.check_both_ways(all_functions([rankings(2)])), (3, 1))
        self.assertEqual(self.check_both_ways(all_functions([rankings(3)])), (7, 3 ** 6 - 7))
        self.assertEqual(self.check_both_ways(all_functions([rankings(2)] * 2)), (6, 10))
        # As many as there are ways to grow from 0 to 1 with three agents: the monotone functions of three bits.
        self.assertEqual(self.check_both_ways(all_functions([rankings(2)] * 3)), (20, 236))

    def test_full_domains_of_two_and_three_agents_and_three_alternatives(self):
        for agent_count in (2, 3):
            strategy_proof, manipulable = self.check_both_ways(full_domain_functions(agent_count, 3))
            self.assertGreaterEqual(strategy_proof, agent_count)
            self.assertGreater(manipulable, MANY)

    def test_constant_functions_of_full_domains(self):
        for agent_count in (1, 2, 3):
            asked = profiles([6] * agent_count)
            for alternative in range(3):
                calls = full_domains(agent_count, 3) + changes_to(asked, [alternative] * len(asked))
                self.assertTrue(is_strategy_proof(calls))
                self.assertTrue(is_monotonic(calls))

    def test_without_full_domains_there_may_be_no_violation_but_a_manipulation(self):
        # 3 falls behind 2 from the first preference to the second, and 0 behind 1 the other way.
        calls = with_outcomes([[[0, 1, 2, 3], [3, 1, 0, 2]]], [2, 1])
        self.assertTrue(is_monotonic(calls))
        self.assertEqual(last_answer(calls + [find_manipulation()]), [0, 1, 0])


class Moulin(unittest.TestCase):
    """Requirement 4."""

    def check(self, domains):
        calls = build(len(domains), len(domains[0][0]), domains)
        for agent, domain in enumerate(domains):
            self.assertEqual(last_answer(calls + [is_single_peaked(agent)]), [1, len(domain)])
        for phantoms in itertools.product(range(len(domains[0][0])), repeat=len(domains) - 1):
            self.assertTrue(is_strategy_proof(calls + [use_generalized_median(phantoms)]), (domains, phantoms))

    def test_every_generalized_median_of_single_peaked_domains_is_strategy_proof(self):
        for agent_count in (1, 2, 3):
            for domain in (rankings(2), SINGLE_PEAKED_OF_THREE, SINGLE_PEAKED_OF_FOUR[:6], SINGLE_PEAKED_OF_FOUR[2:]):
                self.check([domain] * agent_count)

    def test_domains_that_are_not_the_same(self):
        self.check([SINGLE_PEAKED_OF_FOUR[:1], SINGLE_PEAKED_OF_FOUR[1:4], SINGLE_PEAKED_OF_FOUR[3:]])
        draw = random.Random(5)
        for number in range(60):
            single_peaked = draw.choice((rankings(2), SINGLE_PEAKED_OF_THREE, SINGLE_PEAKED_OF_FOUR))
            sizes = [draw.randint(1, min(4, len(single_peaked))) for agent in range(draw.randint(1, 3))]
            self.check([draw.sample(single_peaked, size) for size in sizes])

    def test_plurality_of_two_alternatives_is_strategy_proof(self):
        for agent_count in (1, 2, 3):
            for domains in itertools.product(([[0, 1]], [[1, 0]], rankings(2), [[1, 0], [0, 1]]), repeat=agent_count):
                self.assertTrue(is_strategy_proof(build(agent_count, 2, domains) + [use_plurality()]), domains)

    def test_not_every_rule_is_strategy_proof(self):
        for rule in (use_plurality(), use_borda(), use_generalized_median([0, 2])):
            self.assertFalse(is_strategy_proof(full_domains(3, 3) + [rule]))


class Dictatorships(unittest.TestCase):
    """Requirement 5."""

    def check(self, domains):
        calls = build(len(domains), len(domains[0][0]), domains)
        for agent in range(len(domains)):
            by_agent = calls + [use_dictatorship(agent)]
            self.assertTrue(is_strategy_proof(by_agent))
            self.assertEqual(last_answer(by_agent + [inefficient_profile()]), [0])
            self.assertIn(agent, last_answer(by_agent + [dictators()])[1:])
            for other in range(len(domains)):
                self.assertEqual(last_answer(by_agent + [count_manipulations(other)])[0], 0)

    def test_the_same_domain_for_all(self):
        for agent_count in (1, 2, 3):
            for domain in (rankings(2), rankings(3), SIX_OF_FOUR, SIX_OF_FOUR[2:3]):
                self.check([domain] * agent_count)

    def test_drawn_domains(self):
        draw = random.Random(6)
        for number in range(200):
            self.check(drawn_domains(draw, 4))

    def test_the_other_agents_are_no_dictators_of_full_domains(self):
        for alternative_count in (2, 3):
            for agent in range(3):
                calls = full_domains(3, alternative_count) + [use_dictatorship(agent), dictators()]
                self.assertEqual(last_answer(calls), [1, agent])


if __name__ == "__main__":
    unittest.main()
