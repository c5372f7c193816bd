"""The errors: each alone, which of two is told, and that they change nothing (requirement 6)."""

import unittest

from tests.calling import (
    INVALID, KNOWN_PREFERENCE, LARGEST, LIMIT_REACHED, NO_AGENT, NO_INSTANCE, NO_MANIPULATION, NOT_READY,
    add_preference, ask, build, count_manipulations, create, describe, dictators, find_manipulation,
    inefficient_profile, is_single_peaked, monotonicity_violation, option_set, outcome, outcome_range, profiles,
    rankings, set_full_domain, set_outcome, tell, use_borda, use_dictatorship, use_generalized_median, use_plurality,
    use_sequential_majority, with_outcomes,
)

DOMAINS_OF_THREE = [[[2, 0, 1], [0, 1, 2], [1, 2, 0]], [[2, 1, 0], [1, 0, 2]]]
SET_APART = [set_outcome(1, [0, 0]), set_outcome(0, [2, 1])]

READY = build(2, 3, DOMAINS_OF_THREE) + [use_borda()] + SET_APART
STRATEGY_PROOF = build(2, 3, DOMAINS_OF_THREE) + [use_dictatorship(1)]
ALL_EQUAL = with_outcomes(DOMAINS_OF_THREE, [2] * 6)
ONE_AGENT = with_outcomes([[[3, 0, 1, 2], [2, 1, 0, 3]]], [1, 3])
THREE_AGENTS = with_outcomes([[[0, 1], [1, 0]]] * 3, [0, 1, 1, 0, 1, 0, 0, 0])
NOT_YET_READY = [create(2, 3)] + [add_preference(1, ranking) for ranking in DOMAINS_OF_THREE[1]]
FOUR = build(2, 4, [rankings(4)[5:17:2], rankings(4)[7:9]]) + [use_plurality(), set_outcome(3, [2, 1])]

# Behind these calls: what a call answers, and by which error.
AT_READY = (
    (create(0, 2), INVALID),
    (create(4, 2), INVALID),
    (create(LARGEST, 2), INVALID),
    (create(1, 0), INVALID),
    (create(1, 1), INVALID),
    (create(1, 5), INVALID),
    (create(1, LARGEST), INVALID),
    (create(0, 0), INVALID),
    (create(LARGEST, LARGEST), INVALID),
    (add_preference(2, [0, 2, 1]), NO_AGENT),
    (add_preference(LARGEST, [0, 2, 1]), NO_AGENT),
    (add_preference(0, []), INVALID),
    (add_preference(0, [0, 2]), INVALID),
    (add_preference(0, [0, 2, 2]), INVALID),
    (add_preference(0, [0, 2, 3]), INVALID),
    (add_preference(0, [0, 2, LARGEST]), INVALID),
    (add_preference(0, [0, 2, 1, 0]), INVALID),
    (add_preference(0, [0] * 8), INVALID),
    (add_preference(0, [1, 2, 0]), KNOWN_PREFERENCE),
    (add_preference(1, [1, 0, 2]), KNOWN_PREFERENCE),
    (set_full_domain(2), NO_AGENT),
    (set_full_domain(LARGEST), NO_AGENT),
    (set_outcome(3, [0, 0]), INVALID),
    (set_outcome(LARGEST, [0, 0]), INVALID),
    (set_outcome(1, []), INVALID),
    (set_outcome(1, [0]), INVALID),
    (set_outcome(1, [0, 0, 0]), INVALID),
    (set_outcome(1, [3, 0]), INVALID),
    (set_outcome(1, [0, 2]), INVALID),
    (set_outcome(1, [0, LARGEST]), INVALID),
    (set_outcome(1, [0] * 8), INVALID),
    (use_dictatorship(2), NO_AGENT),
    (use_dictatorship(LARGEST), NO_AGENT),
    (use_generalized_median([]), INVALID),
    (use_generalized_median([1, 1]), INVALID),
    (use_generalized_median([3]), INVALID),
    (use_generalized_median([LARGEST]), INVALID),
    (use_generalized_median([0] * 8), INVALID),
    (use_sequential_majority([]), INVALID),
    (use_sequential_majority([0, 1]), INVALID),
    (use_sequential_majority([0, 1, 1]), INVALID),
    (use_sequential_majority([1, 2, 3]), INVALID),
    (use_sequential_majority([0, 1, LARGEST]), INVALID),
    (use_sequential_majority([0, 1, 2, 3]), INVALID),
    (use_sequential_majority([0] * 8), INVALID),
    (outcome([]), INVALID),
    (outcome([0]), INVALID),
    (outcome([0, 0, 0]), INVALID),
    (outcome([3, 0]), INVALID),
    (outcome([LARGEST, 0]), INVALID),
    (outcome([0] * 8), INVALID),
    (option_set(2, [0, 0]), NO_AGENT),
    (option_set(LARGEST, [0, 0]), NO_AGENT),
    (option_set(0, []), INVALID),
    (option_set(0, [0]), INVALID),
    (option_set(0, [0, 0, 0]), INVALID),
    (option_set(0, [3, 0]), INVALID),
    (option_set(1, [0, 2]), INVALID),
    (option_set(1, [0, LARGEST]), INVALID),
    (option_set(1, [0] * 8), INVALID),
    (count_manipulations(2), NO_AGENT),
    (count_manipulations(LARGEST), NO_AGENT),
    (is_single_peaked(2), NO_AGENT),
    (is_single_peaked(LARGEST), NO_AGENT),
    # Two errors at once: the one that is checked first is told.
    (add_preference(2, [0, 1]), NO_AGENT),
    (add_preference(2, [LARGEST] * 8), NO_AGENT),
    (add_preference(2, [1, 2, 0]), NO_AGENT),
    (set_outcome(3, [3, 0]), INVALID),
    (use_generalized_median([LARGEST, LARGEST]), INVALID),
    (option_set(2, [3, 0]), NO_AGENT),
    (option_set(2, []), NO_AGENT),
    (option_set(LARGEST, [LARGEST] * 8), NO_AGENT),
)

AT_FOUR = (
    (add_preference(0, [0, 1, 2, 3]), LIMIT_REACHED),
    (set_full_domain(0), LIMIT_REACHED),
    (set_full_domain(1), LIMIT_REACHED),
    # Two errors at once.
    (add_preference(2, [0, 1, 2, 3]), NO_AGENT),
    (add_preference(0, [0, 1, 2]), INVALID),
    (add_preference(0, [0, 1, 2, 2]), INVALID),
    (add_preference(0, rankings(4)[5]), KNOWN_PREFERENCE),
    (add_preference(0, rankings(4)[15]), KNOWN_PREFERENCE),
    (set_full_domain(2), NO_AGENT),
    (set_full_domain(LARGEST), NO_AGENT),
)

# While a domain is empty, -16 comes ahead of all else that these calls refuse; numbers 1 and 2 don't ask.
AT_NOT_YET_READY = (
    (set_outcome(1, [0, 0]), NOT_READY),
    (set_outcome(3, [0, 0]), NOT_READY),
    (set_outcome(LARGEST, []), NOT_READY),
    (use_dictatorship(1), NOT_READY),
    (use_dictatorship(2), NOT_READY),
    (use_dictatorship(LARGEST), NOT_READY),
    (use_generalized_median([0]), NOT_READY),
    (use_generalized_median([3]), NOT_READY),
    (use_generalized_median([]), NOT_READY),
    (use_plurality(), NOT_READY),
    (use_borda(), NOT_READY),
    (use_sequential_majority([0, 1, 2]), NOT_READY),
    (use_sequential_majority([0, 1, 1]), NOT_READY),
    (use_sequential_majority([0] * 8), NOT_READY),
    (outcome([0, 0]), NOT_READY),
    (outcome([LARGEST]), NOT_READY),
    (option_set(1, [0, 0]), NOT_READY),
    (option_set(1, []), NOT_READY),
    (option_set(2, [0, 0]), NOT_READY),
    (option_set(LARGEST, [LARGEST] * 8), NOT_READY),
    (find_manipulation(), NOT_READY),
    (count_manipulations(1), NOT_READY),
    (count_manipulations(2), NOT_READY),
    (count_manipulations(LARGEST), NOT_READY),
    (outcome_range(), NOT_READY),
    (dictators(), NOT_READY),
    (monotonicity_violation(), NOT_READY),
    (inefficient_profile(), NOT_READY),
    (is_single_peaked(2), NO_AGENT),
    (is_single_peaked(LARGEST), NO_AGENT),
    (create(0, 3), INVALID),
    (add_preference(2, [0, 1, 2]), NO_AGENT),
    (add_preference(0, [0, 1]), INVALID),
    (add_preference(1, [2, 1, 0]), KNOWN_PREFERENCE),
    (set_full_domain(2), NO_AGENT),
)

# Good or not, each call but create answers -11 while there is no instance.
WITHOUT_INSTANCE = (
    add_preference(0, [0, 1]),
    add_preference(LARGEST, [LARGEST] * 8),
    set_full_domain(0),
    set_full_domain(LARGEST),
    set_outcome(0, [0]),
    set_outcome(LARGEST, []),
    use_dictatorship(0),
    use_dictatorship(LARGEST),
    use_generalized_median([]),
    use_generalized_median([LARGEST] * 8),
    use_plurality(),
    use_borda(),
    use_sequential_majority([0, 1]),
    use_sequential_majority([]),
    outcome([0]),
    outcome([LARGEST] * 8),
    option_set(0, [0]),
    option_set(LARGEST, []),
    option_set(0, [9] * 8),
    find_manipulation(),
    count_manipulations(0),
    count_manipulations(LARGEST),
    outcome_range(),
    dictators(),
    monotonicity_violation(),
    inefficient_profile(),
    is_single_peaked(0),
    is_single_peaked(LARGEST),
    describe(),
)

# The numbers from 9 on, with what is good somewhere and what is good nowhere.
THAT_ONLY_TELL = [find_manipulation(), outcome_range(), dictators(), monotonicity_violation(), inefficient_profile()]
THAT_ONLY_TELL += [describe()]
for agent in (0, 1, 2, LARGEST):
    THAT_ONLY_TELL += [count_manipulations(agent), is_single_peaked(agent)]
    THAT_ONLY_TELL += [option_set(agent, row) for row in ([], [0], [1, 0], [1, 1, 1], [LARGEST, 0], [0] * 8)]
THAT_ONLY_TELL += [outcome(row) for row in ([], [1], [0, 1], [1, 0, 0], [LARGEST, 0], [0] * 8)]


def probe(alternative_count, sizes):
    """Calls that show the whole state: the outcomes, the comparisons of each agent, and the domains."""
    shown = profiles(sizes)
    calls = [describe()] + [outcome(profile) for profile in shown]
    calls += [outcome([size for size in sizes])]
    for agent in range(len(sizes)):
        calls += [use_dictatorship(agent)] + [outcome(profile) for profile in shown]
    agendas = [[1, 2, 0, 3], [2, 0, 1, 3], [3, 1, 2, 0], [0, 1, 2, 3]]
    for agenda in agendas:
        agenda = [alternative for alternative in agenda if alternative < alternative_count]
        calls += [use_sequential_majority(agenda)] + [outcome(profile) for profile in shown]
    calls += [use_borda()] + [outcome(profile) for profile in shown]
    for agent in range(len(sizes) + 1):
        calls += [add_preference(agent, ranking) for ranking in rankings(alternative_count)]
    return calls


class Refusals(unittest.TestCase):
    def check(self, calls, rows, asked):
        """Each refusal is the code alone, and what is asked behind it is answered as without it."""
        expected = ask(calls + asked)
        self.assertLessEqual(len(calls + asked), 399)
        for call, code in rows:
            with self.subTest(call=call):
                found = ask(calls + [call] + asked)
                self.assertEqual(found[len(calls)], [code])
                self.assertEqual(found[:len(calls)] + found[len(calls) + 1:], expected)

    def test_of_a_ready_instance(self):
        self.check(READY, AT_READY, probe(3, (3, 2)))

    def test_of_an_instance_with_four_alternatives_and_six_preferences(self):
        self.check(FOUR, AT_FOUR, probe(4, (6, 2)))

    def test_of_a_strategy_proof_instance(self):
        for calls in (STRATEGY_PROOF, ALL_EQUAL):
            self.check(calls, [(find_manipulation(), NO_MANIPULATION)], probe(3, (3, 2)))

    def test_of_an_instance_that_is_not_ready(self):
        asked = [outcome([0, 0])] + [add_preference(0, ranking) for ranking in DOMAINS_OF_THREE[0]]
        self.check(NOT_YET_READY, AT_NOT_YET_READY, asked + probe(3, (3, 2)))

    def test_all_refusals_one_behind_another(self):
        for calls, rows, asked in (
                (READY, AT_READY, probe(3, (3, 2))), (FOUR, AT_FOUR, probe(4, (6, 2)))):
            refused = [call for call, code in rows]
            found = ask(calls + refused + asked)
            self.assertEqual(found[len(calls):len(calls + refused)], [[code] for call, code in rows])
            self.assertEqual(found[len(calls + refused):], ask(calls + asked)[len(calls):])

    def test_the_probe_sees_each_change(self):
        changes = [
            create(2, 3), create(2, 4), create(3, 3), add_preference(0, [2, 1, 0]), add_preference(1, [0, 1, 2]),
            set_full_domain(0), set_full_domain(1), set_outcome(2, [0, 0]), set_outcome(1, [2, 1]),
            use_dictatorship(0), use_dictatorship(1), use_generalized_median([1]), use_plurality(), use_borda(),
            use_sequential_majority([0, 1, 2]),
        ]
        asked = probe(3, (3, 2))
        expected = ask(READY + asked)[len(READY):]
        for change in changes:
            with self.subTest(change=change):
                self.assertNotEqual(ask(READY + [change] + asked)[len(READY) + 1:], expected)


class TheCallsFrom9OnChangeNothing(unittest.TestCase):
    STATES = (
        (READY, probe(3, (3, 2))),
        (STRATEGY_PROOF, probe(3, (3, 2))),
        (ALL_EQUAL, probe(3, (3, 2))),
        (FOUR, probe(4, (6, 2))),
        (ONE_AGENT, probe(4, (2,))),
        (THREE_AGENTS, probe(2, (2, 2, 2))),
        (NOT_YET_READY, [outcome([0, 0])] + probe(3, (1, 2))),
    )

    def test_each_alone(self):
        for calls, asked in self.STATES:
            expected = ask(calls + asked)[len(calls):]
            for call in THAT_ONLY_TELL:
                with self.subTest(calls=calls, call=call):
                    self.assertEqual(ask(calls + [call] + asked)[len(calls) + 1:], expected)

    def test_all_one_behind_another(self):
        for calls, asked in self.STATES:
            expected = ask(calls + asked)[len(calls):]
            told = calls + THAT_ONLY_TELL + THAT_ONLY_TELL
            self.assertEqual(ask(told + asked)[len(told):], expected)

    def test_each_answers_the_same_again(self):
        for calls, asked in self.STATES:
            for call in THAT_ONLY_TELL:
                found = ask(calls + [call, call])
                self.assertEqual(found[-1], found[-2])

    def test_each_kind_is_answered_and_each_that_can_be_is_refused(self):
        answered, refused = set(), set()
        for calls, asked in self.STATES:
            for call, answer in zip(THAT_ONLY_TELL, ask(calls + THAT_ONLY_TELL)[len(calls):]):
                (refused if answer[0] < 0 else answered).add(call[0])
        self.assertEqual(answered, set(range(9, 19)))
        self.assertEqual(refused, set(range(9, 18)))


class NoInstance(unittest.TestCase):
    def test_alone(self):
        for call in WITHOUT_INSTANCE:
            with self.subTest(call=call):
                self.assertEqual(tell([call]), [NO_INSTANCE])

    def test_ahead_of_the_first_create(self):
        calls = list(WITHOUT_INSTANCE) + [create(1, 2), add_preference(0, [1, 0])]
        self.assertEqual(tell(calls), [NO_INSTANCE] * len(WITHOUT_INSTANCE) + [0, 0])

    def test_behind_a_create_that_failed(self):
        for failed in (create(0, 2), create(4, 2), create(1, 1), create(1, 5), create(LARGEST, 0), create(0, LARGEST)):
            for call in WITHOUT_INSTANCE:
                with self.subTest(failed=failed, call=call):
                    self.assertEqual(tell([failed, call, failed, call]), [INVALID, NO_INSTANCE] * 2)

    def test_not_behind_a_create_that_succeeded(self):
        for calls in ([create(1, 2)], [create(1, 2), create(0, 2)], [create(0, 2), create(1, 2), create(1, 1)]):
            self.assertEqual(tell(calls + [add_preference(0, [1, 0]), outcome([0])])[-2:], [0, 0])


if __name__ == "__main__":
    unittest.main()
