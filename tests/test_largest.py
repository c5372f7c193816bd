"""The largest instances: three agents with six preferences each, so 216 profiles, through the calls 10 to 18."""

import random
import unittest

from tests.calling import (
    INVALID, NO_AGENT, NO_MANIPULATION, add_preference, ask, build, changes_to, count_manipulations, describe,
    dictators, find_manipulation, full_domains, inefficient_profile, is_single_peaked, monotonicity_violation,
    option_set, outcome_range, profiles, rankings, set_outcome, use_borda, use_dictatorship, use_generalized_median,
    use_plurality, use_sequential_majority,
)
from tests.reference import expected_answers

SINGLE_PEAKED_OF_FOUR = [[0, 1, 2, 3], [1, 2, 0, 3], [2, 1, 0, 3], [2, 1, 3, 0], [2, 3, 1, 0], [3, 2, 1, 0]]

OF_THREE = full_domains(3, 3)
OF_FOUR = build(3, 4, [rankings(4)[agent::4] for agent in (0, 1, 3)])
SINGLE_PEAKED = build(3, 4, [SINGLE_PEAKED_OF_FOUR] * 3)
ALL_PROFILES = profiles((6, 6, 6))

ASKED = [find_manipulation(), outcome_range(), dictators(), monotonicity_violation(), inefficient_profile(), describe()]
ASKED += [count_manipulations(agent) for agent in range(4)] + [is_single_peaked(agent) for agent in range(4)]
ASKED += [option_set(agent, profile) for agent in range(3) for profile in ([0, 0, 0], [5, 5, 5], [1, 4, 2], [3, 0, 5])]
ASKED += [option_set(3, [0, 0, 0]), option_set(0, [0, 6, 0]), option_set(2, [0, 0])]


class Largest(unittest.TestCase):
    def check(self, calls):
        asked = calls + ASKED
        self.assertLessEqual(len(asked), 400)
        found = ask(asked)
        self.assertEqual(found, expected_answers(asked))
        self.assertEqual(found[len(calls) + 5], [3, found[len(calls) + 5][1], 6, 6, 6])
        self.assertEqual(found[-3:], [[NO_AGENT], [INVALID], [INVALID]])

    def test_each_rule(self):
        for calls, alternative_count in ((OF_THREE, 3), (OF_FOUR, 4)):
            for rule in (
                    use_dictatorship(1), use_generalized_median([0, alternative_count - 1]), use_plurality(),
                    use_borda(), use_sequential_majority([1, 2, 0, 3][:alternative_count])):
                with self.subTest(alternatives=alternative_count, rule=rule):
                    self.check(calls + [rule])

    def test_all_outcomes_equal(self):
        self.check(OF_THREE)
        self.check(OF_FOUR)

    def test_all_outcomes_but_the_last(self):
        for calls in (OF_THREE, OF_FOUR):
            self.check(calls + [set_outcome(2, [5, 5, 5])])

    def test_drawn_outcomes(self):
        draw = random.Random(7)
        for calls, alternative_count in ((OF_THREE, 3), (OF_FOUR, 4)):
            drawn = [draw.randrange(alternative_count) for profile in ALL_PROFILES]
            self.check(calls + changes_to(ALL_PROFILES, drawn))

    def test_single_peaked_domains(self):
        self.check(SINGLE_PEAKED + [use_generalized_median([1, 2])])
        self.check(SINGLE_PEAKED + [use_plurality()])

    def test_a_manipulation_at_the_very_end(self):
        # All get 0 but at the last profile, where they get 3. There the last agent alone prefers 0 to 3.
        for_0 = [ranking for ranking in rankings(4) if ranking.index(0) < ranking.index(3)]
        domains = [for_0[:5] + [[3, 2, 1, 0]], for_0[5:10] + [[1, 3, 0, 2]], for_0[6:]]
        calls = build(3, 4, domains) + [set_outcome(3, [5, 5, 5])]
        asked = [find_manipulation()] + [count_manipulations(agent) for agent in range(3)]
        self.assertEqual(ask(calls + asked)[len(calls):], [[2, 0, 5, 5, 5], [0, 216], [0, 216], [5, 216]])
        self.check(calls)

    def test_dictatorships_of_both(self):
        for calls, mask, count in ((OF_THREE, 7, 3), (OF_FOUR, 15, 4)):
            for agent in range(3):
                asked = [
                    find_manipulation(), count_manipulations(0), count_manipulations(1), count_manipulations(2),
                    outcome_range(), dictators(), monotonicity_violation(), inefficient_profile()]
                expected = [[NO_MANIPULATION], [0, 216], [0, 216], [0, 216], [mask, count], [1, agent], [0], [0]]
                found = ask(calls + [use_dictatorship(agent)] + asked)
                self.assertEqual(found[-len(asked):], expected)

    def test_a_seventh_preference_is_refused_and_nothing_else_changes(self):
        calls = OF_FOUR + [use_borda()]
        expected = ask(calls + ASKED)[len(calls):]
        refused = [add_preference(agent, ranking) for agent in range(3) for ranking in rankings(4)]
        found = ask(calls + refused + ASKED)
        self.assertEqual({answer[0] for answer in found[len(calls):len(calls + refused)]}, {-17, -28})
        self.assertEqual(found[len(calls + refused):], expected)


if __name__ == "__main__":
    unittest.main()
