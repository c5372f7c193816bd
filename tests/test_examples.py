"""The document's example, row by row."""

import unittest

from tests.calling import (
    INVALID, NO_MANIPULATION, NOT_READY, add_preference, ask, create, describe, dictators, find_manipulation, flat,
    option_set, outcome, outcome_range, use_borda, use_plurality,
)
from truthfulchoice.profiles import answers

ROWS = (
    (create(2, 3), [0]),
    (use_plurality(), [NOT_READY]),
    (add_preference(0, [0, 1, 2]), [0]),
    (add_preference(0, [1, 0, 2]), [1]),
    (add_preference(1, [2, 1, 0]), [0]),
    (add_preference(1, [1, 2, 0]), [1]),
    (use_plurality(), [0]),
    (outcome([0, 0]), [0]),
    (outcome([1, 0]), [1]),
    (option_set(0, [0, 0]), [3]),
    (find_manipulation(), [NO_MANIPULATION]),
    (use_borda(), [0]),
    (outcome([0, 0]), [0]),
    (outcome_range(), [3, 2]),
    (dictators(), [0]),
    (describe(), [2, 3, 2, 2]),
)


class Examples(unittest.TestCase):
    def test_each_row(self):
        found = ask([call for call, expected in ROWS])
        for row, answer in zip(ROWS, found):
            with self.subTest(call=row[0]):
                self.assertEqual(answer, row[1])

    def test_rows_as_one_list(self):
        told = answers(flat([call for call, expected in ROWS]))
        self.assertEqual(told, [
            1, 0, 1, -16, 1, 0, 1, 1, 1, 0, 1, 1, 1, 0, 1, 0, 1, 1, 1, 3, 1, -33, 1, 0, 1, 0, 2, 3, 2, 1, 0,
            4, 2, 3, 2, 2])

    def test_each_row_behind_those_before_it(self):
        for count in range(1, len(ROWS) + 1):
            self.assertEqual(ask([call for call, expected in ROWS[:count]])[-1], ROWS[count - 1][1])

    def test_outcomes_of_the_example_that_it_does_not_show(self):
        # Plurality: peaks 0/2, 0/1, 1/2, 1/1. Borda by hand: 0 has 2, 1 has 2, 2 has 2 in the first profile.
        calls = [call for call, expected in ROWS[:7]]
        asked = [outcome([first, second]) for first in range(2) for second in range(2)]
        self.assertEqual(ask(calls + asked)[7:], [[0], [0], [1], [1]])
        asked = [use_borda()] + asked
        self.assertEqual(ask(calls + asked)[8:], [[0], [1], [1], [1]])

    def test_a_profile_beyond_the_example_is_invalid(self):
        calls = [call for call, expected in ROWS]
        self.assertEqual(ask(calls + [outcome([2, 0]), outcome([0, 2])])[-2:], [[INVALID], [INVALID]])


if __name__ == "__main__":
    unittest.main()
