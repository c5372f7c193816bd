"""`answers`: how calls are read and answers told."""

import unittest

from tests.calling import (
    INVALID, KNOWN_PREFERENCE, LARGEST, NO_AGENT, NO_INSTANCE, NO_MANIPULATION, NOT_READY, add_preference, ask, build,
    count_manipulations, create, describe, dictators, find_manipulation, flat, inefficient_profile, is_single_peaked,
    monotonicity_violation, option_set, outcome, outcome_range, profiles, rankings, set_full_domain, set_outcome, tell,
    use_borda, use_dictatorship, use_generalized_median, use_plurality, use_sequential_majority,
)
from tests.reference import expected_answers
from truthfulchoice.profiles import answers

ALL_KINDS = [
    use_plurality(), describe(), create(0, 3), create(2, 3), find_manipulation(), set_full_domain(0),
    add_preference(1, [2, 1, 0]), add_preference(1, [2, 1, 0]), add_preference(1, [1, 2, 0]), describe(),
    set_outcome(2, [5, 1]), outcome([5, 1]), outcome_range(), inefficient_profile(), monotonicity_violation(),
    use_dictatorship(1), outcome([0, 0]), find_manipulation(), dictators(), monotonicity_violation(),
    inefficient_profile(), use_generalized_median([0]), outcome([5, 0]), option_set(0, [5, 0]), option_set(1, [6, 0]),
    use_plurality(), outcome([1, 1]), count_manipulations(0), count_manipulations(1), count_manipulations(2),
    use_borda(), outcome([1, 1]), use_sequential_majority([2, 0, 1]), outcome([3, 1]), is_single_peaked(0),
    is_single_peaked(1), outcome([6, 1]), create(1, 2), set_full_domain(0), dictators(), set_outcome(1, [0]),
    find_manipulation(), inefficient_profile(), use_generalized_median([]), outcome([1]), outcome_range(),
]
ALL_KINDS_TOLD = [
    [NO_INSTANCE], [NO_INSTANCE], [INVALID], [0], [NOT_READY], [6],
    [0], [KNOWN_PREFERENCE], [1], [2, 3, 6, 2],
    [0], [2], [5, 2], [1, 1, 2, 0], [1, 3, 0, 5, 1],
    [0], [2], [NO_MANIPULATION], [1, 1], [0],
    [0], [0], [2], [7], [INVALID],
    [0], [0], [2, 12], [0, 12], [NO_AGENT],
    [0], [0], [0], [1], [0, 6],
    [1, 2], [INVALID], [0], [2], [1, 0], [0],
    [0, 1, 0], [1, 0, 0], [0], [1], [3, 2],
]


class Unchangeable(list):
    """A list that fails when it is changed."""

    def refuse(self, *arguments, **named):
        raise AssertionError("the list that was handed in is changed")

    append = extend = insert = pop = remove = clear = sort = reverse = refuse
    __setitem__ = __delitem__ = __iadd__ = __imul__ = refuse


class Interface(unittest.TestCase):
    def test_all_kinds_of_calls(self):
        self.assertEqual(ask(ALL_KINDS), ALL_KINDS_TOLD)
        self.assertEqual({call[0] for call in ALL_KINDS}, set(range(19)))

    def test_a_plain_list_of_whole_numbers_is_answered(self):
        for calls in (ALL_KINDS, [create(1, 2)], [outcome([])]):
            told = answers(flat(calls))
            self.assertIs(type(told), list)
            self.assertEqual({type(number) for number in told}, {int})

    def test_each_answer_tells_its_length_first(self):
        self.assertEqual(answers(flat(ALL_KINDS)), flat([[len(answer)] + answer for answer in ALL_KINDS_TOLD]))
        self.assertEqual(answers([0, 3, 4]), [1, 0])
        self.assertEqual(answers([0, 3, 5]), [1, -22])
        self.assertEqual(answers([6]), [1, -11])
        self.assertEqual(answers([0, 3, 4, 18, 17, 2, 17, 3]), [1, 0, 5, 3, 4, 0, 0, 0, 2, 1, 0, 1, -2])

    def test_calls_as_they_are_written(self):
        calls = [0, 2, 3, 1, 0, 3, 2, 0, 1, 2, 1, 3, 2, 2, 0, 4, 4, 0, 5, 1, 1, 6, 7, 8, 3, 0, 1, 2, 9, 2, 0, 4]
        self.assertEqual(answers(calls), [1, 0, 1, 0, 1, 6, 1, 0, 1, 0, 1, 0, 1, 0, 1, 0, 1, 0, 1, 2])
        calls += [10, 1, 2, 0, 4, 11, 12, 1, 13, 14, 15, 16, 17, 0, 18]
        told = [1, 5, 1, -33, 2, 0, 6, 2, 5, 2, 2, 1, 1, 1, 0, 1, 0, 2, 0, 1, 4, 2, 3, 1, 6]
        self.assertEqual(answers(calls)[20:], told)

    def test_results_of_many_numbers(self):
        calls = [0, 3, 2, 2, 0, 2, 1, 2, 2, 3, 1, 3, 1, 1, 1]
        self.assertEqual(answers(calls), [1, 0, 1, 2, 1, 2, 1, 2, 1, 0])
        # The outcome is 1 at [1, 1, 1] alone.
        calls += [11, 12, 2, 13, 14, 15, 16, 18]
        told = [1, -33, 2, 0, 8, 2, 3, 2, 1, 0, 1, 0, 1, 0, 5, 3, 2, 2, 2, 2]
        self.assertEqual(answers(calls)[10:], told)
        # The outcome is 1 at [0, 0, 0] too.
        calls = calls[:15] + [3, 1, 3, 0, 0, 0, 11, 12, 0, 13, 14, 15, 16]
        told = [1, 0, 5, 0, 1, 0, 0, 0, 2, 2, 8, 2, 3, 2, 1, 0, 7, 1, 0, 0, 0, 0, 0, 1, 5, 1, 0, 0, 0, 0]
        self.assertEqual(answers(calls)[10:], told)

    def test_lists_of_every_length_are_passed_over_whole(self):
        # A list that is read too far or too short makes the calls behind it others.
        for size in range(9):
            for number in (0, 1, 6, LARGEST):
                row = [number] * size
                for head in ([1, 0], [3, 0], [5], [8], [9], [10, 0]):
                    call = head + [size] + row
                    with self.subTest(call=call):
                        found = tell([create(3, 4), call, create(1, 2), call, set_full_domain(0), set_full_domain(1)])
                        self.assertEqual([found[0], found[2], found[5]], [0, 0, NO_AGENT])

    def test_the_list_is_the_same_afterwards(self):
        calls = flat(ALL_KINDS)
        copied = list(calls)
        answers(calls)
        self.assertEqual(calls, copied)

    def test_the_list_is_not_changed_for_a_while_either(self):
        self.assertEqual(answers(Unchangeable(flat(ALL_KINDS))), answers(flat(ALL_KINDS)))

    def test_the_same_list_is_answered_the_same_again(self):
        calls = flat(ALL_KINDS)
        first = answers(calls)
        first_copied = list(first)
        second = answers(calls)
        self.assertEqual(second, first_copied)
        self.assertIsNot(second, first)
        first.append(0)
        self.assertEqual(answers(calls), first_copied)

    def test_nothing_is_kept_from_one_time_to_the_next(self):
        answers(flat(build(1, 2, [[[1, 0]]]) + [use_plurality()]))
        self.assertEqual(tell([outcome([0]), add_preference(0, [1, 0])]), [NO_INSTANCE, NO_INSTANCE])
        self.assertEqual(ask([find_manipulation(), describe()]), [[NO_INSTANCE], [NO_INSTANCE]])
        self.assertEqual(tell([create(1, 3), set_full_domain(0), outcome([5])]), [0, 6, 0])
        self.assertEqual(tell([create(1, 3), add_preference(0, [0, 1, 2]), outcome([5])]), [0, 0, INVALID])

    def test_two_agents_with_the_full_domain_do_not_share_it(self):
        calls = [create(2, 2), set_full_domain(0), set_full_domain(1), create(2, 2), set_full_domain(0)]
        calls += [add_preference(1, [1, 0]), use_dictatorship(1), outcome([0, 0]), outcome([0, 1])]
        self.assertEqual(tell(calls), [0, 2, 2, 0, 2, 0, 0, 1, INVALID])


class FourHundredCalls(unittest.TestCase):
    def test_of_one_kind(self):
        self.assertEqual(tell([create(3, 4)] * 400), [0] * 400)
        self.assertEqual(tell([use_borda()] * 400), [NO_INSTANCE] * 400)

    def test_with_the_longest_lists(self):
        calls = flat([add_preference(LARGEST, [LARGEST] * 8)] * 400)
        self.assertEqual(len(calls), 4400)
        self.assertEqual(answers(calls), [1, NO_INSTANCE] * 400)
        calls = flat([create(3, 4)] + [add_preference(2, [LARGEST] * 8)] * 399)
        self.assertEqual(answers(calls), [1, 0] + [1, INVALID] * 399)

    def test_of_many_kinds_on_the_largest_instance(self):
        domain = rankings(4)[1:24:4]
        calls = build(3, 4, [domain] * 3)
        expected = [0] + [0, 1, 2, 3, 4, 5] * 3
        held = dict.fromkeys(map(tuple, profiles((6, 6, 6))), 0)
        step = 0
        while len(calls) < 400:
            profile = (step % 6, step * 5 % 6, step * step % 6)
            alternative = step * 7 % 4
            if step % 40 == 39:
                agent = step % 3
                calls.append(use_dictatorship(agent))
                expected.append(0)
                held = {reports: domain[reports[agent]][0] for reports in held}
            elif step % 3 == 2:
                calls.append(outcome(profile))
                expected.append(held[profile])
            else:
                calls.append(set_outcome(alternative, profile))
                expected.append(held[profile])
                held[profile] = alternative
            step += 1
        self.assertEqual(len(calls), 400)
        self.assertEqual(tell(calls), expected)

    def test_each_rule_on_the_largest_instance(self):
        built = build(3, 4, [rankings(4)[:6]] * 3)
        for rule in (use_borda(), use_plurality(), use_sequential_majority([3, 2, 1, 0]), use_dictatorship(2)):
            calls = built + [rule] * (400 - len(built))
            self.assertEqual(tell(calls)[len(built):], [0] * (400 - len(built)))

    def test_each_call_that_looks_at_all_profiles_on_the_largest_instance(self):
        # By a dictatorship nothing is found, so each call has to look at all there is.
        built = build(3, 4, [rankings(4)[1:24:4]] * 3) + [use_dictatorship(1)]
        for call, expected in (
                (find_manipulation(), [NO_MANIPULATION]), (count_manipulations(0), [0, 216]),
                (outcome_range(), [15, 4]), (dictators(), [1, 1]), (monotonicity_violation(), [0]),
                (inefficient_profile(), [0])):
            calls = built + [call] * (400 - len(built))
            self.assertEqual(ask(calls)[len(built):], [expected] * (400 - len(built)))

    def test_with_all_kinds_among_them(self):
        calls = (ALL_KINDS * 10)[:400]
        self.assertEqual({call[0] for call in calls}, set(range(19)))
        self.assertEqual(len(calls), 400)
        self.assertEqual(ask(calls), expected_answers(calls))


if __name__ == "__main__":
    unittest.main()
