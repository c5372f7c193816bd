"""create, add_preference and set_full_domain: numbers 0 to 2."""

import itertools
import unittest

from tests.calling import (
    INVALID, KNOWN_PREFERENCE, LARGEST, LIMIT_REACHED, NO_AGENT, NO_INSTANCE, NOT_READY, add_preference, build,
    create, outcome, outcomes_of, rankings, set_full_domain, set_outcome, tell, use_borda, use_dictatorship,
    use_plurality, use_sequential_majority,
)


class Create(unittest.TestCase):
    def test_answers_0_within_the_ranges_and_refuses_beyond(self):
        for agent_count in (0, 1, 2, 3, 4, 5, LARGEST - 1, LARGEST):
            for alternative_count in (0, 1, 2, 3, 4, 5, LARGEST - 1, LARGEST):
                good = agent_count in (1, 2, 3) and alternative_count in (2, 3, 4)
                with self.subTest(agents=agent_count, alternatives=alternative_count):
                    self.assertEqual(tell([create(agent_count, alternative_count)]), [0 if good else INVALID])

    def test_makes_as_many_agents_as_it_is_told(self):
        for agent_count in (1, 2, 3):
            calls = [create(agent_count, 2)] + [add_preference(agent, [0, 1]) for agent in range(4)]
            expected = [0] + [0 if agent < agent_count else NO_AGENT for agent in range(4)]
            with self.subTest(agents=agent_count):
                self.assertEqual(tell(calls), expected)

    def test_makes_as_many_alternatives_as_it_is_told(self):
        for alternative_count in (2, 3, 4):
            calls = [create(1, alternative_count)] + [add_preference(0, range(size)) for size in range(6)]
            expected = [0] + [0 if size == alternative_count else INVALID for size in range(6)]
            with self.subTest(alternatives=alternative_count):
                self.assertEqual(tell(calls), expected)

    def test_the_domains_are_empty_at_first(self):
        for agent_count in (1, 2, 3):
            calls = [create(agent_count, 2), use_plurality()]
            calls += [add_preference(agent, [1, 0]) for agent in range(agent_count)]
            self.assertEqual(tell(calls), [0, NOT_READY] + [0] * agent_count)

    def test_a_second_create_replaces_the_instance(self):
        calls = build(2, 3, [[[0, 1, 2]], [[2, 1, 0]]]) + [use_dictatorship(1), outcome([0, 0])]
        calls += [create(1, 2), outcome([0]), add_preference(1, [0, 1]), add_preference(0, [0, 1, 2])]
        calls += [add_preference(0, [1, 0]), outcome([0]), outcome([0, 0])]
        expected = [0, 0, 0, 0, 2] + [0, NOT_READY, NO_AGENT, INVALID] + [0, 0, INVALID]
        self.assertEqual(tell(calls), expected)

    def test_a_second_create_with_the_same_numbers_empties_the_domains(self):
        calls = build(1, 2, [[[0, 1], [1, 0]]]) + [use_plurality(), outcome([1])]
        calls += [create(1, 2), outcome([1]), add_preference(0, [1, 0]), outcome([0]), outcome([1])]
        self.assertEqual(tell(calls), [0, 0, 1, 0, 1] + [0, NOT_READY, 0, 0, INVALID])

    def test_a_create_that_fails_keeps_the_instance(self):
        for agent_count, alternative_count in ((0, 2), (4, 2), (1, 1), (1, 5), (0, 0), (LARGEST, LARGEST)):
            calls = build(1, 2, [[[0, 1], [1, 0]]]) + [use_plurality()]
            calls += [create(agent_count, alternative_count), outcome([0]), outcome([1])]
            calls += [add_preference(0, [1, 0])]
            with self.subTest(agents=agent_count, alternatives=alternative_count):
                self.assertEqual(tell(calls), [0, 0, 1, 0] + [INVALID, 0, 1, KNOWN_PREFERENCE])

    def test_a_create_that_fails_makes_no_instance(self):
        calls = [create(0, 2), set_full_domain(0), create(1, 5), set_full_domain(0), create(1, 2), set_full_domain(0)]
        self.assertEqual(tell(calls), [INVALID, NO_INSTANCE, INVALID, NO_INSTANCE, 0, 2])


class AddPreference(unittest.TestCase):
    def test_the_index_counts_up_for_each_agent_alone(self):
        calls = [create(3, 3)]
        expected = [0]
        for index, ranking in enumerate(rankings(3)):
            for agent in (2, 0, 1):
                calls.append(add_preference(agent, ranking))
                expected.append(index)
        self.assertEqual(tell(calls), expected)

    def test_the_ranking_is_kept_in_its_order(self):
        for ranking in rankings(4):
            calls = build(1, 4, [[ranking]]) + [use_borda(), outcome([0])]
            self.assertEqual(tell(calls)[-1], ranking[0])

    def test_the_agent_does_not_exist(self):
        for agent_count in (1, 2, 3):
            for agent in (0, 1, 2, 3, 4, LARGEST - 1, LARGEST):
                expected = 0 if agent < agent_count else NO_AGENT
                with self.subTest(agents=agent_count, agent=agent):
                    self.assertEqual(tell([create(agent_count, 2), add_preference(agent, [0, 1])]), [0, expected])

    def test_each_short_row_is_a_ranking_or_invalid(self):
        for alternative_count in (2, 3, 4):
            good = rankings(alternative_count)
            for size in range(5):
                for row in itertools.product(range(5), repeat=size):
                    expected = 0 if list(row) in good else INVALID
                    answer = tell([create(1, alternative_count), add_preference(0, row)])
                    self.assertEqual(answer, [0, expected], (alternative_count, row))

    def test_long_rows_and_large_numbers_are_invalid(self):
        rows = [[], [0] * 8, [LARGEST] * 8, list(range(8)), [0, 1, 2, 0], [0, 1, 2, 3], [0, 1], [0, 1, 1], [1, 2, 3]]
        for place in range(3):
            for number in (LARGEST, LARGEST - 1, 3):
                rows.append([0, 1, 2])
                rows[-1][place] = number
        for row in rows:
            with self.subTest(row=row):
                self.assertEqual(tell([create(1, 3), add_preference(0, row)]), [0, INVALID])

    def test_the_domain_contains_the_preference(self):
        for first, second in itertools.product(rankings(3), repeat=2):
            expected = KNOWN_PREFERENCE if first == second else 1
            calls = build(2, 3, [[first], [first]]) + [add_preference(0, second)]
            self.assertEqual(tell(calls), [0, 0, 0, expected])

    def test_the_same_preference_in_the_domain_of_another_agent_is_no_fault(self):
        self.assertEqual(tell(build(3, 2, [[[0, 1]], [[0, 1]], [[0, 1]]])), [0, 0, 0, 0])

    def test_a_seventh_preference(self):
        domain = rankings(4)[3:21:3]
        self.assertEqual(len(domain), 6)
        for seventh in rankings(4):
            expected = KNOWN_PREFERENCE if seventh in domain else LIMIT_REACHED
            calls = build(2, 4, [domain, domain[:1]]) + [add_preference(0, seventh)]
            self.assertEqual(tell(calls), [0, 0, 1, 2, 3, 4, 5, 0, expected])

    def test_a_full_domain_leaves_room_in_the_others(self):
        calls = build(2, 4, [rankings(4)[:6], rankings(4)[:5]])
        calls += [add_preference(0, [3, 2, 1, 0]), add_preference(1, [3, 2, 1, 0]), add_preference(1, [3, 2, 0, 1])]
        self.assertEqual(tell(calls)[-3:], [LIMIT_REACHED, 5, LIMIT_REACHED])

    def test_a_preference_more_behind_a_full_domain(self):
        calls = [create(1, 3), set_full_domain(0)] + [add_preference(0, ranking) for ranking in rankings(3)]
        self.assertEqual(tell(calls), [0, 6] + [KNOWN_PREFERENCE] * 6)

    def test_all_outcomes_become_0(self):
        calls = build(2, 3, [[[2, 1, 0], [1, 0, 2]], [[2, 0, 1]]]) + [use_dictatorship(0)]
        self.assertEqual(outcomes_of(calls, (2, 1)), [2, 1])
        self.assertEqual(outcomes_of(calls + [add_preference(0, [2, 0, 1])], (3, 1)), [0] * 3)
        self.assertEqual(outcomes_of(calls + [add_preference(1, [1, 2, 0])], (2, 2)), [0] * 4)

    def test_outcomes_that_were_set_one_by_one_become_0(self):
        calls = build(1, 2, [[[1, 0]]]) + [set_outcome(1, [0])]
        self.assertEqual(outcomes_of(calls, (1,)), [1])
        self.assertEqual(outcomes_of(calls + [add_preference(0, [0, 1])], (2,)), [0, 0])

    def test_outcomes_stay_when_it_fails(self):
        calls = build(2, 3, [[[2, 1, 0], [1, 0, 2]], [[2, 0, 1]]]) + [use_dictatorship(0), set_outcome(0, [1, 0])]
        for fault in ([2, [0, 1, 2]], [0, [0, 1]], [0, [0, 1, 1]], [0, [2, 1, 0]], [1, [2, 0, 1]]):
            with self.subTest(fault=fault):
                self.assertEqual(outcomes_of(calls + [add_preference(*fault)], (2, 1)), [2, 0])
        calls = build(1, 4, [rankings(4)[-6:]]) + [use_plurality()]
        self.assertEqual(outcomes_of(calls + [add_preference(0, [0, 1, 2, 3])], (6,)), [3] * 6)


class SetFullDomain(unittest.TestCase):
    def test_two_three_and_four_alternatives(self):
        for alternative_count, expected in ((2, 2), (3, 6), (4, LIMIT_REACHED)):
            for agent_count in (1, 2, 3):
                for agent in range(agent_count):
                    calls = [create(agent_count, alternative_count), set_full_domain(agent)]
                    self.assertEqual(tell(calls), [0, expected])

    def test_the_preferences_stand_in_lexicographic_order(self):
        # Over all profiles of two agents, the agendas tell every comparison of two alternatives.
        for alternative_count in (2, 3):
            domain = rankings(alternative_count)
            by_hand = build(2, alternative_count, [domain, domain])
            at_once = [create(2, alternative_count), set_full_domain(0), set_full_domain(1)]
            for rule in [use_borda()] + [use_sequential_majority(agenda) for agenda in domain]:
                with self.subTest(rule=rule):
                    sizes = (len(domain), len(domain))
                    self.assertEqual(outcomes_of(at_once + [rule], sizes), outcomes_of(by_hand + [rule], sizes))

    def test_the_peaks_of_three_alternatives(self):
        calls = [create(1, 3), set_full_domain(0), use_dictatorship(0)]
        self.assertEqual(outcomes_of(calls, (6,)), [0, 0, 1, 1, 2, 2])

    def test_the_domain_before_is_replaced(self):
        calls = build(1, 3, [[[2, 1, 0], [0, 1, 2]]]) + [set_full_domain(0)]
        self.assertEqual(tell(calls), [0, 0, 1, 6])
        self.assertEqual(outcomes_of(calls + [use_plurality()], (6,)), [0, 0, 1, 1, 2, 2])
        self.assertEqual(tell(calls + [outcome([6])])[-1], INVALID)

    def test_the_other_domains_stay(self):
        calls = build(2, 2, [[[1, 0]], [[1, 0]]]) + [set_full_domain(1), use_dictatorship(0)]
        self.assertEqual(outcomes_of(calls, (1, 2)), [1, 1])
        self.assertEqual(tell(calls + [outcome([1, 0])])[-1], INVALID)

    def test_it_may_be_called_again(self):
        calls = [create(1, 3), set_full_domain(0), set_full_domain(0), use_plurality()]
        self.assertEqual(tell(calls), [0, 6, 6, 0])
        self.assertEqual(outcomes_of(calls, (6,)), [0, 0, 1, 1, 2, 2])

    def test_the_agent_does_not_exist(self):
        for agent_count in (1, 2, 3):
            for agent in (0, 1, 2, 3, 4, LARGEST - 1, LARGEST):
                expected = 6 if agent < agent_count else NO_AGENT
                self.assertEqual(tell([create(agent_count, 3), set_full_domain(agent)]), [0, expected])

    def test_all_outcomes_become_0(self):
        for before in ([[1, 0]], [[1, 0], [0, 1]], [[0, 1], [1, 0]]):
            calls = build(2, 2, [before, [[1, 0]]]) + [use_dictatorship(1)]
            self.assertEqual(outcomes_of(calls, (len(before), 1)), [1] * len(before))
            self.assertEqual(outcomes_of(calls + [set_full_domain(0)], (2, 1)), [0, 0])
            self.assertEqual(outcomes_of(calls + [set_full_domain(1)], (len(before), 2)), [0] * 2 * len(before))

    def test_outcomes_stay_when_it_fails(self):
        calls = build(2, 4, [[[3, 1, 2, 0]], [[2, 1, 0, 3], [1, 0, 2, 3]]]) + [use_dictatorship(1)]
        for agent, expected in ((0, LIMIT_REACHED), (1, LIMIT_REACHED), (2, NO_AGENT), (LARGEST, NO_AGENT)):
            with self.subTest(agent=agent):
                fault = set_full_domain(agent)
                self.assertEqual(tell(calls + [fault])[-1], expected)
                self.assertEqual(outcomes_of(calls + [fault], (1, 2)), [2, 1])


if __name__ == "__main__":
    unittest.main()
