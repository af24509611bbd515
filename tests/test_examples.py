"""The rows of "Examples" in DOC.md that use the calls which are built."""

import unittest

from helper import ask, colorings_with, components, count_colorings, events, linking, load


class Examples(unittest.TestCase):
    def test_first_table(self):
        self.assertEqual(
            ask(
                events(),
                load("tie t 2/over 1/under 1/end"),
                events(),
                components(),
                linking(0, 1),
                count_colorings(3),
                colorings_with(3, [1, 2]),
            ),
            [[-7], [2, 2, 2, 2], [2, 0, 1, 1, 1], [2, 0, 2, 0, 100, 1, 2, 1, 101], [0], [9], [1, 1, 2]],
        )

    def test_first_table_texts_to_compare_with(self):
        self.assertEqual(ask(load("tie u 2/over 2/end")), [[-213]])
        self.assertEqual(ask(load("tie u 2/end")), [[2, 2, 0, 0]])
        self.assertEqual(ask(load("tie u 2/over 1/over 1/end"), linking(0, 1)), [[2, 2, 2, 2], [2]])

    def test_second_table(self):
        self.assertEqual(
            ask(load("tie e 1/cup 2/over 1/cap 2/end"), components(), count_colorings(3), colorings_with(3, [2])),
            [[1, 1, 3, 1], [1, 0, 2, 0, 100], [3], [1, 2]],
        )

    def test_second_table_words_after_moves(self):
        self.assertEqual(
            ask(load("tie e 1/cup 1/under 2/cap 2/end"), events(), components(), colorings_with(3, [2])),
            [[1, 1, 3, 1], [3, 2, 1, 1, 2, 3, 2], [1, 0, 2, 0, 100], [1, 2]],
        )
