"""range, dictators, monotonicity_violation and inefficient_profile: numbers 13 to 16."""

import unittest

from tests.calling import (
    NO_INSTANCE, NOT_READY, add_preference, ask, build, create, dictators, full_domains, inefficient_profile,
    last_answer, monotonicity_violation, outcome_range, rankings, set_outcome, use_borda, use_dictatorship,
    use_generalized_median, use_plurality, use_sequential_majority, with_outcomes,
)


class EachCall(unittest.TestCase):
    def test_refusals(self):
        for call in (outcome_range(), dictators(), monotonicity_violation(), inefficient_profile()):
            with self.subTest(call=call):
                self.assertEqual(last_answer([call]), [NO_INSTANCE])
                self.assertEqual(last_answer([create(4, 2), call]), [NO_INSTANCE])
                for agent_count in (1, 2, 3):
                    self.assertEqual(last_answer([create(agent_count, 2), call]), [NOT_READY])
                self.assertEqual(last_answer([create(2, 2), add_preference(0, [0, 1]), call]), [NOT_READY])
                self.assertEqual(last_answer([create(2, 2), add_preference(1, [0, 1]), call]), [NOT_READY])
                self.assertEqual(last_answer(full_domains(2, 3) + [create(2, 3), call]), [NOT_READY])


class Range(unittest.TestCase):
    def answer(self, domains, selected):
        return last_answer(with_outcomes(domains, selected) + [outcome_range()])

    def test_the_mask_and_the_count(self):
        domain = rankings(4)[:4]
        self.assertEqual(self.answer([domain], [0, 1, 2, 3]), [15, 4])
        self.assertEqual(self.answer([domain], [3, 0, 0, 3]), [9, 2])
        self.assertEqual(self.answer([domain], [1, 1, 2, 1]), [6, 2])
        self.assertEqual(self.answer([domain], [3, 2, 1, 2]), [14, 3])

    def test_one_element(self):
        for alternative in range(4):
            self.assertEqual(self.answer([rankings(4)[:3]] * 2, [alternative] * 9), [2 ** alternative, 1])
            self.assertEqual(self.answer([rankings(4)[:1]] * 3, [alternative]), [2 ** alternative, 1])

    def test_the_outcome_of_one_profile_among_many(self):
        for place in (0, 1, 107, 214, 215):
            selected = [0] * 216
            selected[place] = 2
            self.assertEqual(self.answer([rankings(3)] * 3, selected), [5, 2])

    def test_by_the_rules(self):
        self.assertEqual(last_answer(full_domains(2, 3) + [outcome_range()]), [1, 1])
        self.assertEqual(last_answer(full_domains(2, 3) + [use_plurality(), outcome_range()]), [7, 3])
        self.assertEqual(last_answer(full_domains(2, 3) + [use_generalized_median([1]), outcome_range()]), [7, 3])
        self.assertEqual(last_answer(full_domains(1, 2) + [use_dictatorship(0), outcome_range()]), [3, 2])

    def test_an_alternative_that_is_nobodys_outcome_any_more(self):
        calls = build(1, 3, [rankings(3)[:2]])
        calls += [set_outcome(2, [0]), outcome_range(), set_outcome(1, [0]), outcome_range(), set_outcome(1, [1])]
        self.assertEqual(ask(calls + [outcome_range()])[3:], [[0], [5, 2], [2], [3, 2], [0], [2, 1]])


class Dictators(unittest.TestCase):
    def answer(self, domains, selected):
        return last_answer(with_outcomes(domains, selected) + [dictators()])

    def test_none(self):
        self.assertEqual(self.answer([rankings(2)] * 2, [0, 0, 0, 1]), [0])
        self.assertEqual(self.answer([rankings(2)] * 2, [1, 0, 0, 1]), [0])
        self.assertEqual(last_answer(full_domains(3, 2) + [use_plurality(), dictators()]), [0])

    def test_each_agent_alone(self):
        self.assertEqual(self.answer([rankings(2)] * 2, [0, 0, 1, 1]), [1, 0])
        self.assertEqual(self.answer([rankings(2)] * 2, [0, 1, 0, 1]), [1, 1])
        self.assertEqual(self.answer([rankings(2)] * 3, [0, 1] * 4), [1, 2])
        self.assertEqual(self.answer([rankings(2)] * 3, [0, 0, 1, 1] * 2), [1, 1])

    def test_one_agent(self):
        self.assertEqual(self.answer([rankings(2)], [0, 1]), [1, 0])
        self.assertEqual(self.answer([rankings(2)], [1, 0]), [0])
        self.assertEqual(self.answer([rankings(2)], [1, 1]), [1, 0])

    def test_all_outcomes_equal_make_each_agent_a_dictator(self):
        for agent_count in (1, 2, 3):
            for alternative in range(3):
                domains = [rankings(3)] * agent_count
                expected = [agent_count] + list(range(agent_count))
                self.assertEqual(self.answer(domains, [alternative] * 6 ** agent_count), expected)

    def test_one_profile_has_one_outcome(self):
        self.assertEqual(self.answer([[[2, 1, 0]], [[0, 1, 2]], [[1, 0, 2]]], [0]), [3, 0, 1, 2])
        self.assertEqual(self.answer([[[2, 1, 0]]], [0]), [1, 0])

    def test_only_the_range_counts(self):
        # The agent likes 2 best, but 2 is never the outcome.
        self.assertEqual(self.answer([[[2, 0, 1], [2, 1, 0]]], [0, 1]), [1, 0])
        self.assertEqual(self.answer([[[2, 0, 1], [2, 1, 0], [0, 1, 2]]], [0, 1, 0]), [1, 0])
        self.assertEqual(self.answer([[[2, 0, 1], [2, 1, 0], [0, 1, 2]]], [0, 1, 2]), [0])
        # A range of 0 and 1 that the second agent chooses from.
        domain = [[2, 0, 1], [1, 2, 0], [0, 2, 1]]
        self.assertEqual(self.answer([domain] * 2, [0, 1, 0] * 3), [1, 1])

    def test_the_range_is_that_of_all_profiles(self):
        # The first agent gets the best of what it can reach, which isn't the best of the range.
        self.assertEqual(self.answer([rankings(2)] * 2, [0, 0, 0, 1]), [0])
        self.assertEqual(self.answer([[[0, 1]], rankings(2)], [1, 0]), [0])
        self.assertEqual(self.answer([[[0, 1]], [[1, 0], [0, 1]]], [1, 0]), [1, 1])

    def test_each_profile_counts(self):
        for place in range(9):
            domain = [[0, 1, 2], [1, 2, 0], [2, 0, 1]]
            selected = [0, 0, 0, 1, 1, 1, 2, 2, 2]
            self.assertEqual(self.answer([domain] * 2, selected), [1, 0])
            selected[place] = (selected[place] + 1) % 3
            self.assertEqual(self.answer([domain] * 2, selected), [0])

    def test_an_agent_with_one_preference(self):
        # The range is 0 alone then, or the agent gets something else at some profile.
        self.assertEqual(self.answer([[[0, 1]], rankings(2)], [0, 0]), [2, 0, 1])
        self.assertEqual(self.answer([[[0, 1]], rankings(2)], [0, 1]), [1, 1])


class MonotonicityViolation(unittest.TestCase):
    def answer(self, domains, selected):
        return last_answer(with_outcomes(domains, selected) + [monotonicity_violation()])

    def test_both_profiles(self):
        # From 0 1 to 1 0 nothing rises above 1, but 1 is no more the outcome.
        self.assertEqual(self.answer([rankings(2)], [1, 0]), [1, 0, 1])
        self.assertEqual(self.answer([rankings(2)] * 2, [0, 0, 1, 0]), [1, 1, 0, 1, 1])
        self.assertEqual(self.answer([[[0, 1]], [[0, 1]], rankings(2)], [1, 0]), [1, 0, 0, 0, 0, 0, 1])

    def test_none(self):
        self.assertEqual(self.answer([rankings(2)], [0, 1]), [0])
        self.assertEqual(self.answer([rankings(2)] * 2, [0, 0, 0, 1]), [0])
        self.assertEqual(self.answer([rankings(2)] * 2, [0, 1, 0, 1]), [0])
        self.assertEqual(self.answer([[[1, 0]]], [0]), [0])

    def test_all_outcomes_equal(self):
        for alternative in range(3):
            self.assertEqual(self.answer([rankings(3)] * 2, [alternative] * 36), [0])

    def test_what_rises_above_the_outcome_makes_it_no_violation(self):
        # 2 rises above 1 between the two.
        self.assertEqual(self.answer([[[0, 1, 2], [2, 1, 0]]], [1, 2]), [0])
        self.assertEqual(self.answer([[[0, 1, 2], [2, 1, 0]]], [1, 0]), [1, 1, 0])
        # Nothing rises above 1 between these, though 0 and 2 change places.
        self.assertEqual(self.answer([[[1, 0, 2], [1, 2, 0]]], [1, 2]), [1, 0, 1])
        # 1 stays where it is, but what stands above it is another.
        self.assertEqual(self.answer([[[0, 1, 2], [2, 1, 0]]], [1, 1]), [0])

    def test_what_falls_is_no_fault(self):
        # 0 falls behind 1 from the first to the second, so 1 should stay the outcome.
        self.assertEqual(self.answer([[[0, 1, 2], [1, 0, 2]]], [1, 0]), [1, 0, 1])
        # 1 falls behind 0 from the second to the first, so 1 need not stay.
        self.assertEqual(self.answer([[[0, 1, 2], [1, 0, 2]]], [0, 1]), [0])

    def test_for_every_agent(self):
        # For the first agent nothing rises above 1 from [0, 0] to [1, 1]; for the second one 0 does.
        domains = [[[0, 1], [1, 0]], [[1, 0], [0, 1]]]
        self.assertEqual(self.answer(domains, [1, 0, 1, 0]), [0])
        # From [0, 0] to [1, 1] nothing rises above 1 for either agent.
        domains = [[[0, 1], [1, 0]], [[0, 1], [1, 0]]]
        self.assertEqual(self.answer(domains, [1, 1, 1, 0]), [1, 0, 0, 1, 1])

    def test_each_agent_against_its_own_preferences(self):
        # Each of the three agents in turn is the one by whose preference 2 rises above 1.
        kept, risen = [[1, 0, 2], [1, 2, 0]], [[1, 0, 2], [2, 1, 0]]
        self.assertEqual(self.answer([kept] * 3, [1, 1, 1, 1, 1, 1, 1, 0]), [1, 0, 0, 0, 1, 1, 1])
        for agent in range(3):
            domains = [kept] * 3
            domains[agent] = risen
            # Only from profiles where this agent reports its second preference already does 2 not rise.
            first = [1] + [int(other == agent) for other in range(3)] + [1, 1, 1]
            self.assertEqual(self.answer(domains, [1] * 7 + [0]), first)

    def test_first_p(self):
        domain = [[0, 1, 2], [1, 0, 2], [2, 1, 0]]
        # [1] with [0] and [2], [2] with [1].
        self.assertEqual(self.answer([domain], [0, 2, 0]), [1, 1, 0])
        # [2] with [1] alone: p stands behind q.
        self.assertEqual(self.answer([domain], [0, 1, 0]), [1, 2, 1])
        # [0] with [2], [1] with [2], [2] with [1].
        self.assertEqual(self.answer([domain], [2, 2, 1]), [1, 0, 2])

    def test_first_q(self):
        domain = [[0, 1, 2], [1, 0, 2], [2, 1, 0]]
        # [0] with [1] and [2].
        self.assertEqual(self.answer([domain], [2, 1, 1]), [1, 0, 1])
        # [2] with [0] and [1].
        self.assertEqual(self.answer([domain], [1, 1, 0]), [1, 2, 0])

    def test_first_p_and_q_of_two_agents(self):
        # [0, 1] with [1, 1], [1, 0] with [1, 1], and [1, 1] with both.
        self.assertEqual(self.answer([rankings(2)] * 2, [0, 1, 1, 0]), [1, 0, 1, 1, 1])
        # [0, 0] with [1, 0] and [1, 1], and more.
        self.assertEqual(self.answer([rankings(2)] * 2, [1, 1, 0, 0]), [1, 0, 0, 1, 0])

    def test_a_manipulation_but_no_violation(self):
        self.assertEqual(self.answer([[[0, 1, 2, 3], [3, 1, 0, 2]]], [2, 1]), [0])

    def test_by_the_rules(self):
        self.assertEqual(last_answer(full_domains(3, 3) + [use_dictatorship(1), monotonicity_violation()]), [0])
        self.assertEqual(last_answer(full_domains(3, 2) + [use_plurality(), monotonicity_violation()]), [0])
        # At 1 0 2 and 2 0 1 the peaks tie and 1 is chosen; at 1 0 2 and 0 1 2 they tie and 0 is chosen.
        # 1 is the last for the second agent at first, so nothing rises above it.
        self.assertEqual(last_answer(full_domains(2, 3) + [use_plurality(), monotonicity_violation()]), [1, 2, 4, 2, 0])


class InefficientProfile(unittest.TestCase):
    def answer(self, domains, selected):
        return last_answer(with_outcomes(domains, selected) + [inefficient_profile()])

    def test_the_alternative_and_the_profile(self):
        self.assertEqual(self.answer([rankings(2)], [0, 0]), [1, 1, 1])
        self.assertEqual(self.answer([rankings(2)], [1, 1]), [1, 0, 0])
        self.assertEqual(self.answer([rankings(2)] * 2, [0, 0, 0, 0]), [1, 1, 1, 1])
        self.assertEqual(self.answer([[[2, 1, 0]], [[1, 2, 0]], [[1, 0, 2]]], [0]), [1, 1, 0, 0, 0])

    def test_none(self):
        self.assertEqual(self.answer([rankings(2)], [0, 1]), [0])
        self.assertEqual(self.answer([rankings(2)] * 2, [0, 0, 1, 1]), [0])
        self.assertEqual(self.answer([[[0, 1, 2]], [[2, 1, 0]]], [1]), [0])
        self.assertEqual(self.answer([[[0, 1, 2], [0, 2, 1]]] * 2, [0] * 4), [0])

    def test_every_agent_has_to_prefer_it(self):
        # All but one would rather have 0.
        for agent in range(3):
            domains = [[[0, 1, 2]]] * 3
            self.assertEqual(self.answer(domains, [1]), [1, 0, 0, 0, 0])
            domains[agent] = [[1, 0, 2]]
            self.assertEqual(self.answer(domains, [1]), [0])

    def test_first_profile(self):
        self.assertEqual(self.answer([[[0, 1, 2], [1, 0, 2], [2, 0, 1]]], [0, 2, 0]), [1, 0, 1])
        self.assertEqual(self.answer([[[0, 1, 2], [1, 0, 2], [2, 0, 1]]], [0, 1, 1]), [1, 0, 2])
        # Both at [0, 1] and at [1, 0] there is something better for both.
        self.assertEqual(self.answer([[[0, 1, 2], [1, 0, 2]]] * 2, [0, 2, 2, 1]), [1, 0, 0, 1])
        self.assertEqual(self.answer([[[0, 1, 2], [1, 0, 2]]] * 2, [0, 1, 2, 1]), [1, 0, 1, 0])

    def test_lowest_alternative(self):
        # Both prefer 2 and 1 to 3, whichever of them they like best; 0 is better for one alone.
        self.assertEqual(self.answer([[[2, 1, 3, 0]], [[2, 0, 1, 3]]], [3]), [1, 1, 0, 0])
        self.assertEqual(self.answer([[[3, 2, 1, 0]]], [0]), [1, 1, 0])
        self.assertEqual(self.answer([[[3, 2, 0, 1]]], [1]), [1, 0, 0])
        self.assertEqual(self.answer([[[3, 2, 0, 1]]], [0]), [1, 2, 0])

    def test_the_better_alternative_need_not_be_in_the_range(self):
        self.assertEqual(self.answer([[[2, 0, 1], [2, 1, 0]]], [0, 1]), [1, 2, 0])

    def test_by_the_rules(self):
        for rule in (use_dictatorship(0), use_plurality(), use_borda()):
            self.assertEqual(last_answer(full_domains(2, 3) + [rule, inefficient_profile()]), [0])
        # All outcomes are 0 at first: the first profile at which nobody likes it best and all agree on another.
        self.assertEqual(last_answer(full_domains(1, 3) + [inefficient_profile()]), [1, 1, 2])
        self.assertEqual(last_answer(full_domains(2, 3) + [inefficient_profile()]), [1, 1, 2, 2])
        # At 0 1 2 and 2 0 1 the median of the peaks and the phantom is 1, and both like 0 better.
        calls = full_domains(2, 3) + [use_generalized_median([1]), inefficient_profile()]
        self.assertEqual(last_answer(calls), [1, 0, 0, 4])

    def test_sequential_majority_of_three_may_be_inefficient(self):
        # 0 beats 1, 3 beats 0 and 2 beats 3; but all like 1 better than 2.
        domains = [[[0, 1, 2, 3]], [[3, 0, 1, 2]], [[1, 2, 3, 0]]]
        calls = build(3, 4, domains) + [use_sequential_majority([1, 0, 3, 2]), inefficient_profile()]
        self.assertEqual(last_answer(calls), [1, 1, 0, 0, 0])


if __name__ == "__main__":
    unittest.main()
