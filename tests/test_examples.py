"""The document's example, row by row, as far as its calls are there."""

import unittest

from tests.calling import (
    INVALID, NOT_READY, add_preference, ask, create, flat, outcome, use_borda, use_plurality,
)
from truthfulchoice.profiles import answers

ROWS = (
    (create(2, 3), 0),
    (use_plurality(), NOT_READY),
    (add_preference(0, [0, 1, 2]), 0),
    (add_preference(0, [1, 0, 2]), 1),
    (add_preference(1, [2, 1, 0]), 0),
    (add_preference(1, [1, 2, 0]), 1),
    (use_plurality(), 0),
    (outcome([0, 0]), 0),
    (outcome([1, 0]), 1),
    (use_borda(), 0),
    (outcome([0, 0]), 0),
)


class Examples(unittest.TestCase):
    def test_each_row(self):
        found = ask([call for call, expected in ROWS])
        for row, answer in zip(ROWS, found):
            with self.subTest(call=row[0]):
                self.assertEqual(answer, [row[1]])

    def test_rows_as_one_list(self):
        told = answers(flat([call for call, expected in ROWS]))
        self.assertEqual(told, [1, 0, 1, -16, 1, 0, 1, 1, 1, 0, 1, 1, 1, 0, 1, 0, 1, 1, 1, 0, 1, 0])

    def test_outcomes_of_the_example_that_it_does_not_show(self):
        # Plurality: peaks 0/2, 0/1, 1/2, 1/1. Borda by hand: 0 has 2, 1 has 2, 2 has 2 in the first profile.
        calls = [call for call, expected in ROWS[:7]]
        asked = [outcome([first, second]) for first in range(2) for second in range(2)]
        self.assertEqual(ask(calls + asked)[7:], [[0], [0], [1], [1]])
        asked = [use_borda()] + asked
        self.assertEqual(ask(calls + asked)[8:], [[0], [1], [1], [1]])

    def test_a_profile_beyond_the_example_is_invalid(self):
        calls = [call for call, expected in ROWS]
        self.assertEqual(ask(calls + [outcome([2, 0]), outcome([0, 2])])[-2:], [[INVALID], [INVALID]])


if __name__ == "__main__":
    unittest.main()
