"""Both tables under "Examples" in DOC.md, row by row, each table as one list of calls."""

import unittest

from helper import (
    apply_move, ask, colorings_with, compare, components, count_colorings, events, linking, load, moves, reset,
    simplify,
)

FIRST = (
    (events(), [-7]),
    (load("tie t 2/over 1/under 1/end"), [2, 2, 2, 2]),
    (events(), [2, 0, 1, 1, 1]),
    (components(), [2, 0, 2, 0, 100, 1, 2, 1, 101]),
    (linking(0, 1), [0]),
    (count_colorings(3), [9]),
    (colorings_with(3, [1, 2]), [1, 1, 2]),
    (moves(), [1, 0, 1]),
    (compare("tie u 2/end"), [0]),
    (compare("tie u 2/over 1/end"), [2]),
    (compare("tie u 2/over 1/over 1/end"), [3]),
    (compare("tie u 3/end"), [1]),
    (compare("tie u 2/over 2/end"), [-213]),
    (simplify(1), [0, 1, 2]),
    (apply_move(1), [-3]),
    (apply_move(0), [0, 0]),
    (moves(), [0]),
    (simplify(1), [0, 0, 1]),
    (components(), [2, 0, 2, 0, 100, 1, 2, 1, 101]),
    (reset(), [2]),
)

SECOND = (
    (load("tie e 1/cup 2/over 1/cap 2/end"), [1, 1, 3, 1]),
    (components(), [1, 0, 2, 0, 100]),
    (count_colorings(3), [3]),
    (colorings_with(3, [2]), [1, 2]),
    (moves(), [2, 0, 9, 1, 10]),
    (simplify(1), [1, 0, 3]),
    (simplify(2), [0, 2, 5]),
    (simplify(3), [0, 2, 6]),
    (apply_move(0), [3, 1]),
    (events(), [3, 2, 1, 1, 2, 3, 2]),
    (moves(), [2, 0, 8, 1, 3]),
    (apply_move(1), [2, 0]),
    (moves(), [1, 0, 4]),
    (apply_move(0), [0, 0]),
    (reset(), [3]),
    (apply_move(1), [3, 1]),
    (events(), [3, 2, 2, 1, 2, 3, 1]),
    (moves(), [2, 0, 2, 1, 11]),
)


class Examples(unittest.TestCase):
    def check(self, rows):
        self.assertEqual(ask(*[call for call, expected in rows]), [expected for call, expected in rows])

    def test_first_table(self):
        self.check(FIRST)

    def test_second_table(self):
        self.check(SECOND)

    def test_both_tables_one_behind_the_other(self):
        # Thirty calls at most: the second table begins with a load, so it answers the same behind any call.
        self.check(FIRST[:12] + SECOND)
        self.check(SECOND[:10] + FIRST[1:])
