"""set_outcome and outcome: numbers 3 and 9."""

import itertools
import unittest

from tests.calling import (
    INVALID, LARGEST, NOT_READY, add_preference, build, create, outcome, outcomes_of, profiles, rankings, set_outcome,
    tell, use_dictatorship,
)


def domains_of(sizes, alternative_count):
    return [rankings(alternative_count)[:size] for size in sizes]


def rows_to_try(sizes):
    """Rows about the profiles of these sizes: the profiles, and rows that miss them by little or by much."""
    rows = profiles([size + 1 for size in sizes])
    first = [0] * len(sizes)
    rows += [[], first[1:], first + [0], [0] * 8, [LARGEST] * 8, [LARGEST] * len(sizes)]
    for place in range(len(sizes)):
        for number in (LARGEST, LARGEST - 1, 2 ** 31, 6, 7):
            rows.append(list(first))
            rows[-1][place] = number
    return rows


SIZES = ((1,), (2,), (6,), (1, 1), (2, 3), (3, 2), (1, 2, 1), (2, 1, 3), (3, 2, 2))


class Outcome(unittest.TestCase):
    def test_all_are_0_at_first(self):
        for sizes in SIZES:
            self.assertEqual(outcomes_of(build(len(sizes), 3, domains_of(sizes, 3)), sizes), [0] * len(profiles(sizes)))

    def test_each_row_is_a_profile_or_invalid(self):
        for sizes in SIZES:
            good = profiles(sizes)
            calls = build(len(sizes), 3, domains_of(sizes, 3))
            for row in rows_to_try(sizes):
                with self.subTest(sizes=sizes, row=row):
                    self.assertEqual(tell(calls + [outcome(row)])[-1], 0 if row in good else INVALID)

    def test_each_report_is_told_from_the_domain_of_its_own_agent(self):
        calls = build(2, 3, domains_of((2, 5), 3)) + [outcome([1, 4]), outcome([4, 1]), outcome([2, 0])]
        self.assertEqual(tell(calls)[-3:], [0, INVALID, INVALID])

    def test_it_changes_nothing(self):
        calls = build(2, 3, domains_of((2, 3), 3)) + [use_dictatorship(1), set_outcome(2, [1, 0])]
        before = outcomes_of(calls, (2, 3))
        self.assertEqual(before, [0, 0, 1, 2, 0, 1])
        self.assertEqual(outcomes_of(calls + [outcome([1, 0]), outcome([9]), outcome([0, 2])], (2, 3)), before)


class SetOutcome(unittest.TestCase):
    def test_answers_the_outcome_before(self):
        calls = build(1, 4, [[[3, 2, 1, 0]]])
        calls += [set_outcome(alternative, [0]) for alternative in (2, 3, 3, 0, 1)] + [outcome([0])]
        self.assertEqual(tell(calls), [0, 0, 0, 2, 3, 3, 0, 1])

    def test_answers_the_outcome_that_a_rule_had_set(self):
        calls = build(1, 4, [[[3, 2, 1, 0]]]) + [use_dictatorship(0), set_outcome(1, [0]), outcome([0])]
        self.assertEqual(tell(calls), [0, 0, 0, 3, 1])

    def test_sets_this_profile_and_no_other(self):
        for sizes in SIZES:
            calls = build(len(sizes), 3, domains_of(sizes, 3))
            asked = profiles(sizes)
            for place, profile in enumerate(asked):
                expected = [0] * len(asked)
                expected[place] = 2
                self.assertEqual(outcomes_of(calls + [set_outcome(2, profile)], sizes), expected)

    def test_each_profile_keeps_its_own_outcome(self):
        sizes = (2, 3, 4)
        expected = [place * place % 4 for place in range(24)]
        calls = build(3, 4, domains_of(sizes, 4))
        calls += [set_outcome(alternative, profile) for alternative, profile in zip(expected, profiles(sizes))]
        self.assertEqual(outcomes_of(calls, sizes), expected)

    def test_the_alternative_does_not_exist(self):
        for alternative_count in (2, 3, 4):
            for alternative in (0, 1, 2, 3, 4, 5, LARGEST - 1, LARGEST):
                calls = build(1, alternative_count, [rankings(alternative_count)[:1]])
                calls += [set_outcome(alternative, [0]), outcome([0])]
                expected = [0, alternative] if alternative < alternative_count else [INVALID, 0]
                with self.subTest(alternatives=alternative_count, alternative=alternative):
                    self.assertEqual(tell(calls)[-2:], expected)

    def test_each_row_is_a_profile_or_invalid(self):
        for sizes in SIZES:
            good = profiles(sizes)
            calls = build(len(sizes), 3, domains_of(sizes, 3))
            for row in rows_to_try(sizes):
                with self.subTest(sizes=sizes, row=row):
                    found = tell(calls + [set_outcome(1, row)])[-1]
                    self.assertEqual(found, 0 if row in good else INVALID)

    def test_outcomes_stay_when_it_fails(self):
        calls = build(2, 3, domains_of((2, 2), 3)) + [set_outcome(1, [0, 1]), set_outcome(2, [1, 0])]
        faults = [set_outcome(3, [0, 1]), set_outcome(LARGEST, [1, 1])]
        faults += [set_outcome(1, row) for row in rows_to_try((2, 2)) if row not in profiles((2, 2))]
        for fault in faults:
            with self.subTest(fault=fault):
                self.assertEqual(tell(calls + [fault])[-1], INVALID)
                self.assertEqual(outcomes_of(calls + [fault], (2, 2)), [0, 1, 2, 0])

    def test_a_rule_sets_all_outcomes_anew(self):
        calls = build(1, 3, domains_of((3,), 3)) + [set_outcome(2, [0]), set_outcome(2, [2]), use_dictatorship(0)]
        self.assertEqual(outcomes_of(calls, (3,)), [0, 0, 1])


class Ready(unittest.TestCase):
    def test_each_domain_must_have_a_preference(self):
        for agent_count in (1, 2, 3):
            for filled in itertools.product((0, 1), repeat=agent_count):
                calls = [create(agent_count, 2)]
                calls += [add_preference(agent, [0, 1]) for agent in range(agent_count) if filled[agent]]
                expected = 0 if all(filled) else NOT_READY
                for call in (outcome([0] * agent_count), set_outcome(1, [0] * agent_count)):
                    with self.subTest(filled=filled, call=call):
                        self.assertEqual(tell(calls + [call])[-1], expected)


if __name__ == "__main__":
    unittest.main()
