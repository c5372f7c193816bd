"""is_single_peaked and describe: numbers 17 and 18."""

import itertools
import unittest

from tests.calling import (
    LARGEST, NO_AGENT, NO_INSTANCE, add_preference, ask, build, create, describe, is_single_peaked, last_answer,
    rankings, set_full_domain, use_borda, use_plurality,
)

# All that only fall on both sides of their peak, by the alternatives' numbers.
SINGLE_PEAKED = {
    2: [[0, 1], [1, 0]],
    3: [[0, 1, 2], [1, 0, 2], [1, 2, 0], [2, 1, 0]],
    4: [
        [0, 1, 2, 3], [1, 0, 2, 3], [1, 2, 0, 3], [1, 2, 3, 0],
        [2, 1, 0, 3], [2, 1, 3, 0], [2, 3, 1, 0], [3, 2, 1, 0]],
}


class IsSinglePeaked(unittest.TestCase):
    def test_each_preference(self):
        for alternative_count in (2, 3, 4):
            for ranking in rankings(alternative_count):
                expected = [int(ranking in SINGLE_PEAKED[alternative_count]), 1]
                calls = build(1, alternative_count, [[ranking]])
                with self.subTest(ranking=ranking):
                    self.assertEqual(last_answer(calls + [is_single_peaked(0)]), expected)

    def test_two_preferences(self):
        for alternative_count in (3, 4):
            good = SINGLE_PEAKED[alternative_count]
            for domain in itertools.permutations(rankings(alternative_count), 2):
                expected = [int(domain[0] in good and domain[1] in good), 2]
                calls = build(1, alternative_count, [domain])
                self.assertEqual(last_answer(calls + [is_single_peaked(0)]), expected, domain)

    def test_the_size_of_the_domain(self):
        for size in range(7):
            calls = build(1, 4, [SINGLE_PEAKED[4][:size]])
            self.assertEqual(last_answer(calls + [is_single_peaked(0)]), [1, size])
            calls = build(1, 4, [rankings(4)[::4][:size]])
            # Of these, the second one is 0 3 1 2.
            self.assertEqual(last_answer(calls + [is_single_peaked(0)]), [int(size < 2), size])

    def test_one_among_six_is_enough(self):
        for place in range(6):
            domain = SINGLE_PEAKED[4][:6]
            domain[place] = [0, 1, 3, 2]
            self.assertEqual(last_answer(build(1, 4, [domain]) + [is_single_peaked(0)]), [0, 6])

    def test_full_domains(self):
        for alternative_count, expected in ((2, [1, 2]), (3, [0, 6])):
            calls = [create(1, alternative_count), set_full_domain(0), is_single_peaked(0)]
            self.assertEqual(last_answer(calls), expected)

    def test_one_three_of_alternatives_is_enough(self):
        # The fault of the first one is at 0, 1 and 2 alone, that of the second one at 1, 2 and 3 alone.
        self.assertEqual(last_answer(build(1, 4, [[[0, 2, 1, 3]]]) + [is_single_peaked(0)]), [0, 1])
        self.assertEqual(last_answer(build(1, 4, [[[3, 1, 2, 0]]]) + [is_single_peaked(0)]), [0, 1])

    def test_an_empty_domain(self):
        for agent_count in (1, 2, 3):
            calls = [create(agent_count, 3)] + [is_single_peaked(agent) for agent in range(agent_count)]
            self.assertEqual(ask(calls)[1:], [[1, 0]] * agent_count)

    def test_each_agent_has_its_own_domain(self):
        calls = build(3, 3, [[[0, 2, 1]], [], SINGLE_PEAKED[3]])
        calls += [is_single_peaked(agent) for agent in (0, 1, 2)]
        self.assertEqual(ask(calls)[-3:], [[0, 1], [1, 0], [1, 4]])

    def test_the_agent_does_not_exist(self):
        for agent_count in (1, 2, 3):
            for ready in (True, False):
                calls = build(agent_count, 2, [[[0, 1]]] * (agent_count if ready else agent_count - 1))
                for agent in (0, 1, 2, 3, 4, LARGEST - 1, LARGEST):
                    with self.subTest(agents=agent_count, agent=agent, ready=ready):
                        found = last_answer(calls + [is_single_peaked(agent)])
                        if agent >= agent_count:
                            self.assertEqual(found, [NO_AGENT])
                        else:
                            self.assertEqual(found, [1, 1 if ready or agent < agent_count - 1 else 0])

    def test_without_an_instance(self):
        for agent in (0, 1, LARGEST):
            self.assertEqual(last_answer([is_single_peaked(agent)]), [NO_INSTANCE])
            self.assertEqual(last_answer([create(1, 5), is_single_peaked(agent)]), [NO_INSTANCE])


class Describe(unittest.TestCase):
    def test_right_behind_create(self):
        for agent_count in (1, 2, 3):
            for alternative_count in (2, 3, 4):
                found = last_answer([create(agent_count, alternative_count), describe()])
                self.assertEqual(found, [agent_count, alternative_count] + [0] * agent_count)

    def test_the_sizes_of_the_domains(self):
        for sizes in itertools.chain(*[itertools.product((0, 1, 2, 6), repeat=count) for count in (1, 2, 3)]):
            calls = build(len(sizes), 3, [rankings(3)[:size] for size in sizes])
            self.assertEqual(last_answer(calls + [describe()]), [len(sizes), 3, *sizes])

    def test_while_the_domains_grow(self):
        calls = [create(2, 3), describe(), add_preference(1, [2, 0, 1]), describe(), set_full_domain(0), describe()]
        calls += [add_preference(1, [2, 0, 1]), describe(), set_full_domain(1), describe(), use_borda(), describe()]
        found = [[2, 3, 0, 0], [2, 3, 0, 1], [2, 3, 6, 1], [2, 3, 6, 1], [2, 3, 6, 6], [2, 3, 6, 6]]
        self.assertEqual(ask(calls)[1::2], found)

    def test_behind_another_create(self):
        calls = build(3, 3, [rankings(3)] * 3) + [describe(), create(0, 2), describe(), create(1, 4), describe()]
        found = ask(calls)
        self.assertEqual([found[-5], found[-3], found[-1]], [[3, 3, 6, 6, 6], [3, 3, 6, 6, 6], [1, 4, 0]])

    def test_without_an_instance(self):
        for calls in ([], [create(0, 2)], [create(1, LARGEST)], [use_plurality(), set_full_domain(0)]):
            self.assertEqual(last_answer(calls + [describe()]), [NO_INSTANCE])


if __name__ == "__main__":
    unittest.main()
