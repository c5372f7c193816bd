"""What the requirements 4 and 5 say of the rules."""

import itertools
import unittest

from tests.calling import (
    build, outcomes_of, profiles, rankings, use_borda, use_dictatorship, use_generalized_median, use_plurality,
)

SINGLE_PEAKED_OF_THREE = [[0, 1, 2], [1, 0, 2], [1, 2, 0], [2, 1, 0]]
SINGLE_PEAKED_OF_FOUR = [[2, 3, 1, 0], [0, 1, 2, 3], [1, 2, 3, 0], [3, 2, 1, 0], [2, 1, 0, 3], [1, 0, 2, 3]]
SIX_OF_FOUR = [[3, 1, 0, 2], [0, 1, 2, 3], [2, 3, 1, 0], [1, 0, 3, 2], [2, 0, 3, 1], [0, 3, 2, 1]]


def prefers(ranking, one, other):
    return ranking.index(one) < ranking.index(other)


def function_of(domains, rule):
    """The outcome by each profile, as a dict."""
    sizes = [len(domain) for domain in domains]
    calls = build(len(domains), len(domains[0][0]), domains) + [rule]
    return dict(zip(map(tuple, profiles(sizes)), outcomes_of(calls, sizes)))


def is_strategy_proof(domains, function):
    for profile, selected in function.items():
        for agent, domain in enumerate(domains):
            for other in range(len(domain)):
                changed = profile[:agent] + (other,) + profile[agent + 1:]
                if prefers(domain[profile[agent]], function[changed], selected):
                    return False
    return True


def is_efficient(domains, function):
    for profile, selected in function.items():
        reported = [domain[report] for domain, report in zip(domains, profile)]
        for alternative in reported[0]:
            if all(prefers(ranking, alternative, selected) for ranking in reported):
                return False
    return True


def is_dictator(agent, domains, function):
    selectable = set(function.values())
    for profile, selected in function.items():
        ranking = domains[agent][profile[agent]]
        if any(prefers(ranking, alternative, selected) for alternative in selectable):
            return False
    return True


class Moulin(unittest.TestCase):
    def test_every_generalized_median_of_single_peaked_domains_is_strategy_proof(self):
        domains_tried = [[domain] * agent_count for agent_count in (1, 2, 3) for domain in (
            SINGLE_PEAKED_OF_THREE, SINGLE_PEAKED_OF_FOUR, [[1, 0], [0, 1]])]
        domains_tried.append([SINGLE_PEAKED_OF_FOUR[:1], SINGLE_PEAKED_OF_FOUR[1:4], SINGLE_PEAKED_OF_FOUR[3:]])
        for domains in domains_tried:
            for phantoms in itertools.product(range(len(domains[0][0])), repeat=len(domains) - 1):
                function = function_of(domains, use_generalized_median(phantoms))
                self.assertTrue(is_strategy_proof(domains, function), (domains, phantoms))

    def test_plurality_of_two_alternatives_is_strategy_proof(self):
        for agent_count in (1, 2, 3):
            for domains in itertools.product(([[0, 1]], [[1, 0]], rankings(2), [[1, 0], [0, 1]]), repeat=agent_count):
                self.assertTrue(is_strategy_proof(domains, function_of(domains, use_plurality())))

    def test_not_every_rule_is_strategy_proof(self):
        for rule in (use_plurality(), use_borda(), use_generalized_median([0, 2])):
            domains = [rankings(3)] * 3
            self.assertFalse(is_strategy_proof(domains, function_of(domains, rule)))


class Dictatorships(unittest.TestCase):
    def test_strategy_proof_and_efficient_and_its_agent_a_dictator(self):
        for agent_count in (1, 2, 3):
            for domain in (rankings(2), rankings(3), SIX_OF_FOUR, SIX_OF_FOUR[2:3]):
                for agent in range(agent_count):
                    domains = [domain] * agent_count
                    function = function_of(domains, use_dictatorship(agent))
                    self.assertTrue(is_strategy_proof(domains, function))
                    self.assertTrue(is_efficient(domains, function))
                    self.assertTrue(is_dictator(agent, domains, function))

    def test_the_other_agents_are_no_dictators_of_full_domains(self):
        domains = [rankings(3)] * 3
        for agent in range(3):
            function = function_of(domains, use_dictatorship(agent))
            self.assertEqual([other for other in range(3) if is_dictator(other, domains, function)], [agent])


if __name__ == "__main__":
    unittest.main()
