"""option_set, find_manipulation and count_manipulations: numbers 10 to 12."""

import unittest

from tests.calling import (
    INVALID, LARGEST, NO_AGENT, NO_INSTANCE, NO_MANIPULATION, NOT_READY, add_preference, ask, build,
    count_manipulations, create, find_manipulation, full_domains, last_answer, option_set, profiles, rankings,
    set_outcome, use_borda, use_dictatorship, use_generalized_median, use_plurality, use_sequential_majority,
    with_outcomes,
)

# Profiles [0, 0], [0, 1], [0, 2], [1, 0], [1, 1], [1, 2] with these outcomes.
TWO_BY_THREE = with_outcomes(
    [[[0, 1, 2, 3], [3, 2, 1, 0]], [[0, 1, 2, 3], [3, 2, 1, 0], [1, 0, 3, 2]]], [0, 1, 3, 2, 1, 1])
NOT_YET_READY = [create(2, 2), add_preference(0, [0, 1])]


def answers_to(calls, asked):
    return ask(calls + asked)[len(calls):]


def first_of(domains, selected):
    return last_answer(with_outcomes(domains, selected) + [find_manipulation()])


def counts_of(domains, selected):
    asked = [count_manipulations(agent) for agent in range(len(domains))]
    return answers_to(with_outcomes(domains, selected), asked)


class OptionSet(unittest.TestCase):
    def test_of_each_agent_at_each_profile(self):
        asked = [option_set(0, profile) for profile in profiles((2, 3))]
        self.assertEqual(answers_to(TWO_BY_THREE, asked), [[5], [2], [10], [5], [2], [10]])
        asked = [option_set(1, profile) for profile in profiles((2, 3))]
        self.assertEqual(answers_to(TWO_BY_THREE, asked), [[11], [11], [11], [6], [6], [6]])

    def test_of_the_agent_in_the_middle(self):
        selected = [0, 1, 2, 3, 0, 2, 1, 1]
        calls = with_outcomes([[[0, 1, 2, 3], [1, 0, 2, 3]]] * 3, selected)
        # The middle reports of two profiles that go together: 0 and 2, 1 and 3, 4 and 6, 5 and 7.
        asked = [option_set(1, profile) for profile in profiles((2, 2, 2))]
        self.assertEqual(answers_to(calls, asked), [[5], [10], [5], [10], [3], [6], [3], [6]])
        asked = [option_set(0, profile) for profile in profiles((2, 2, 2))]
        self.assertEqual(answers_to(calls, asked), [[1], [6], [6], [10], [1], [6], [6], [10]])
        asked = [option_set(2, profile) for profile in profiles((2, 2, 2))]
        self.assertEqual(answers_to(calls, asked), [[3], [3], [12], [12], [5], [5], [2], [2]])

    def test_one_agent_has_the_whole_range(self):
        calls = with_outcomes([rankings(4)[:5]], [3, 0, 0, 3, 1])
        self.assertEqual(answers_to(calls, [option_set(0, [report]) for report in range(5)]), [[11]] * 5)

    def test_a_domain_with_one_preference_leaves_the_outcome_alone(self):
        calls = with_outcomes([[[0, 1, 2]], rankings(3)[:3]], [2, 0, 1])
        asked = [option_set(0, [0, 0]), option_set(0, [0, 1]), option_set(0, [0, 2]), option_set(1, [0, 1])]
        self.assertEqual(answers_to(calls, asked), [[4], [1], [2], [7]])

    def test_all_outcomes_equal(self):
        calls = with_outcomes([rankings(3)[:2]] * 2, [2] * 4)
        self.assertEqual(answers_to(calls, [option_set(1, profile) for profile in profiles((2, 2))]), [[4]] * 4)
        calls = build(2, 3, [rankings(3)[:2]] * 2)
        self.assertEqual(answers_to(calls, [option_set(1, profile) for profile in profiles((2, 2))]), [[1]] * 4)

    def test_by_a_rule(self):
        calls = full_domains(2, 3) + [use_generalized_median([1])]
        # Against the peak 0 the first agent moves the median from 0 to 1, against 2 from 1 to 2.
        asked = [option_set(0, [5, 0]), option_set(0, [0, 2]), option_set(0, [1, 5])]
        self.assertEqual(answers_to(calls, asked), [[3], [2], [6]])

    def test_the_agent_does_not_exist(self):
        for agent in (2, 3, LARGEST - 1, LARGEST):
            self.assertEqual(last_answer(TWO_BY_THREE + [option_set(agent, [0, 0])]), [NO_AGENT])

    def test_each_row_is_a_profile_or_invalid(self):
        rows = profiles((4, 4)) + [[], [0], [0, 0, 0], [0] * 8, [LARGEST] * 8, [LARGEST, 0], [0, LARGEST], [LARGEST]]
        for row in rows:
            with self.subTest(row=row):
                found = last_answer(TWO_BY_THREE + [option_set(1, row)])
                self.assertEqual(found, [(11, 6)[row[0]]] if row in profiles((2, 3)) else [INVALID])

    def test_which_of_two_errors_is_told(self):
        self.assertEqual(last_answer(TWO_BY_THREE + [option_set(2, [2, 0])]), [NO_AGENT])
        self.assertEqual(last_answer(TWO_BY_THREE + [option_set(LARGEST, [])]), [NO_AGENT])
        self.assertEqual(last_answer(NOT_YET_READY + [option_set(0, [0, 0])]), [NOT_READY])
        self.assertEqual(last_answer(NOT_YET_READY + [option_set(2, [0, 0])]), [NOT_READY])
        self.assertEqual(last_answer(NOT_YET_READY + [option_set(0, [])]), [NOT_READY])
        self.assertEqual(last_answer([option_set(2, [])]), [NO_INSTANCE])


class FindManipulation(unittest.TestCase):
    def test_the_agent_the_index_and_the_profile(self):
        # At [0, 1] the second agent gets 1 and prefers 3 and 2 to it: its third preference brings 3.
        self.assertEqual(last_answer(TWO_BY_THREE + [find_manipulation()]), [1, 2, 0, 1])

    def test_one_agent(self):
        self.assertEqual(first_of([[[0, 1], [1, 0]]], [1, 0]), [0, 1, 0])
        self.assertEqual(first_of([[[0, 1], [1, 0]]], [0, 1]), [NO_MANIPULATION])
        self.assertEqual(first_of([[[0, 1], [1, 0]]], [1, 1]), [NO_MANIPULATION])

    def test_three_agents(self):
        domains = [[[0, 1]], [[0, 1], [1, 0]], [[1, 0]]]
        self.assertEqual(first_of(domains, [1, 0]), [1, 1, 0, 0, 0])
        self.assertEqual(first_of(domains, [0, 1]), [NO_MANIPULATION])

    def test_the_preference_is_that_of_the_original_profile(self):
        # Behind the change the agent reports that it likes 2 best; what it likes at first is 0.
        self.assertEqual(first_of([[[0, 1, 2], [2, 1, 0]]], [1, 2]), [NO_MANIPULATION])
        self.assertEqual(first_of([[[0, 1, 2], [2, 1, 0]]], [1, 0]), [0, 1, 0])

    def test_an_equal_outcome_is_no_gain(self):
        self.assertEqual(first_of([[[0, 1, 2], [1, 0, 2]]], [1, 1]), [NO_MANIPULATION])

    def test_first_by_profile(self):
        # The first agent could gain at [1, 0] and the second one at [0, 1] alone.
        domains = [[[0, 1, 2], [1, 0, 2]], [[0, 1, 2], [1, 0, 2]]]
        self.assertEqual(first_of(domains, [1, 2, 2, 2]), [1, 0, 0, 1])
        self.assertEqual(first_of(domains, [0, 0, 1, 1]), [NO_MANIPULATION])

    def test_profiles_are_ordered_by_the_first_report_first(self):
        # The first agent gains at [0, 1], the second one at [1, 0], both at [1, 1].
        domains = [[[1, 0], [0, 1]]] * 2
        self.assertEqual(first_of(domains, [1, 0, 0, 1]), [0, 1, 0, 1])

    def test_at_the_last_profile_alone(self):
        # The agent gets its best by the first two preferences, and by the third one what it likes least.
        self.assertEqual(first_of([[[0, 1, 2], [1, 2, 0], [2, 1, 0]]], [0, 1, 0]), [0, 1, 2])
        # Only the last agent can move anything, and only by the last preference it has cause to.
        self.assertEqual(first_of([[[0, 1]], [[1, 0]], [[0, 1], [1, 0]]], [0, 0]), [NO_MANIPULATION])
        self.assertEqual(first_of([[[0, 1, 2]], [[1, 0, 2]], [[0, 1, 2], [2, 0, 1]]], [0, 1]), [2, 0, 0, 0, 1])

    def test_first_by_agent(self):
        # At [0, 0] the first agent gains by its third preference, the second one by its second already.
        domains = [[[0, 1, 2], [1, 0, 2], [2, 0, 1]], [[0, 1, 2], [1, 0, 2]]]
        self.assertEqual(first_of(domains, [2, 0, 2, 0, 1, 1]), [0, 2, 0, 0])
        self.assertEqual(first_of(domains, [2, 0, 2, 0, 2, 0]), [1, 1, 0, 0])

    def test_first_by_the_index_of_the_other_preference(self):
        # The second preference brings 1, which is better than 2; the third one brings 0, which is better still.
        domain = [[0, 1, 2], [1, 0, 2], [2, 1, 0]]
        self.assertEqual(first_of([domain], [2, 1, 0]), [0, 1, 0])
        self.assertEqual(first_of([domain], [2, 2, 1]), [0, 2, 0])

    def test_the_other_preference_may_have_a_lower_index(self):
        self.assertEqual(first_of([[[1, 0, 2], [2, 1, 0]]], [1, 0]), [0, 0, 1])
        self.assertEqual(first_of([[[1, 0, 2], [0, 1, 2], [2, 1, 0]]], [1, 1, 0]), [0, 2, 1])
        self.assertEqual(first_of([[[0, 1, 2], [2, 1, 0], [1, 2, 0]]], [0, 1, 0]), [0, 1, 2])

    def test_by_the_rules(self):
        calls = full_domains(2, 3)
        self.assertEqual(last_answer(calls + [use_dictatorship(1), find_manipulation()]), [NO_MANIPULATION])
        # By Borda, 0 1 2 and 1 0 2 choose 0: 0 and 1 have 3 each. With 1 2 0 the second agent leaves 0 only 2.
        self.assertEqual(last_answer(calls + [use_borda(), find_manipulation()]), [1, 3, 0, 2])

    def test_plurality_of_three(self):
        calls = full_domains(3, 3)
        # At 0 1 2, 1 0 2 and 2 1 0 the peaks tie, and 0 is chosen: the third agent says 1, which it likes better.
        self.assertEqual(last_answer(calls + [use_plurality(), find_manipulation()]), [2, 2, 0, 2, 5])

    def test_all_outcomes_equal(self):
        self.assertEqual(first_of([rankings(3)] * 2, [1] * 36), [NO_MANIPULATION])

    def test_it_shows_what_the_outcomes_are_by_then(self):
        calls = build(1, 2, [rankings(2)])
        calls += [find_manipulation(), set_outcome(1, [0]), find_manipulation()]
        calls += [use_dictatorship(0), find_manipulation()]
        self.assertEqual(ask(calls)[3:], [[NO_MANIPULATION], [0], [0, 1, 0], [0], [NO_MANIPULATION]])

    def test_refusals(self):
        self.assertEqual(last_answer(NOT_YET_READY + [find_manipulation()]), [NOT_READY])
        self.assertEqual(last_answer([create(1, 2), find_manipulation()]), [NOT_READY])
        self.assertEqual(last_answer([find_manipulation()]), [NO_INSTANCE])
        self.assertEqual(last_answer([create(1, 1), find_manipulation()]), [NO_INSTANCE])


class CountManipulations(unittest.TestCase):
    def test_of_each_agent_beside_the_number_of_profiles(self):
        # The first agent: at [0, 2] from 3 to 1, at [1, 2] from 1 to 3. The second one: at [0, 1] from 1 to 3,
        # at [0, 2] from 3 to 0 and to 1, at [1, 0] from 2 to 1 twice, and at [1, 1] from 1 to 2.
        asked = [count_manipulations(0), count_manipulations(1)]
        self.assertEqual(answers_to(TWO_BY_THREE, asked), [[2, 6], [6, 6]])

    def test_each_other_preference_that_gains_is_one(self):
        domain = [[0, 1, 2], [1, 0, 2], [2, 1, 0]]
        self.assertEqual(counts_of([domain], [2, 1, 0]), [[4, 3]])
        self.assertEqual(counts_of([domain], [0, 1, 2]), [[0, 3]])
        self.assertEqual(counts_of([domain], [2, 0, 0]), [[3, 3]])

    def test_each_agent_has_its_own(self):
        # The second agent alone decides, and against its own preference.
        self.assertEqual(counts_of([rankings(2)] * 2, [1, 0, 1, 0]), [[0, 4], [4, 4]])
        self.assertEqual(counts_of([rankings(2)] * 2, [1, 1, 0, 0]), [[4, 4], [0, 4]])
        self.assertEqual(counts_of([[[1, 0], [0, 1]]] * 2, [1, 0, 0, 1]), [[2, 4], [2, 4]])

    def test_none(self):
        self.assertEqual(counts_of([rankings(2)] * 3, [0] * 8), [[0, 8]] * 3)
        self.assertEqual(counts_of([[[0, 1]]], [1]), [[0, 1]])
        self.assertEqual(counts_of([[[0, 1]], rankings(2)], [1, 0]), [[0, 2], [2, 2]])

    def test_the_number_of_profiles(self):
        for sizes in ((1,), (6,), (1, 1), (2, 3), (6, 6), (1, 1, 1), (2, 3, 4), (6, 1, 5), (6, 6, 6)):
            calls = build(len(sizes), 3, [rankings(3)[:size] for size in sizes])
            for agent in range(len(sizes)):
                found = last_answer(calls + [use_dictatorship(agent), count_manipulations(agent)])
                self.assertEqual(found, [0, len(profiles(sizes))])

    def test_by_the_rules(self):
        calls = build(2, 3, [[[0, 1, 2], [1, 0, 2]], [[2, 1, 0], [1, 2, 0]]])
        asked = [count_manipulations(0), count_manipulations(1), find_manipulation()]
        # By Borda all three have 2 at [0, 0], so 0 is chosen; 1 is chosen elsewhere.
        self.assertEqual(answers_to(calls + [use_borda()], asked), [[0, 4], [1, 4], [1, 1, 0, 0]])
        # 1 takes the place of 2 where both like it better: where the second agent likes it best.
        rule = use_sequential_majority([2, 1, 0])
        self.assertEqual(answers_to(calls + [rule], asked), [[0, 4], [0, 4], [NO_MANIPULATION]])
        # 1 takes the place of 0 where both like it better: the first agent can keep 0, but then it likes 1 better.
        rule = use_sequential_majority([0, 1, 2])
        self.assertEqual(answers_to(calls + [rule], asked), [[0, 4], [0, 4], [NO_MANIPULATION]])

    def test_the_agent_does_not_exist(self):
        for agent_count in (1, 2, 3):
            calls = full_domains(agent_count, 2)
            for agent in (0, 1, 2, 3, 4, LARGEST - 1, LARGEST):
                expected = [0, 2 ** agent_count] if agent < agent_count else [NO_AGENT]
                self.assertEqual(last_answer(calls + [count_manipulations(agent)]), expected)

    def test_which_of_two_errors_is_told(self):
        self.assertEqual(last_answer(NOT_YET_READY + [count_manipulations(0)]), [NOT_READY])
        self.assertEqual(last_answer(NOT_YET_READY + [count_manipulations(2)]), [NOT_READY])
        self.assertEqual(last_answer(NOT_YET_READY + [count_manipulations(LARGEST)]), [NOT_READY])
        self.assertEqual(last_answer([count_manipulations(LARGEST)]), [NO_INSTANCE])


if __name__ == "__main__":
    unittest.main()
