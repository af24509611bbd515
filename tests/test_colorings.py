import unittest

from helper import after, ask, colorings_with, components, count_colorings, events

# A closed trefoil: two strands that cross three times, closed at both sides.
TREFOIL = "tie t 0/cup 1/cup 3/over 2/over 2/over 2/cap 3/cap 1/end"
FIGURE_EIGHT = "tie t 0/cup 1/cup 3/over 2/over 2/under 1/under 3/cap 2/cap 1/end"


class CountColorings(unittest.TestCase):
    def check(self, shown, p, expected):
        self.assertEqual(after(shown, count_colorings(p)), [[expected]], (shown, p))

    def test_no_text(self):
        self.assertEqual(ask(count_colorings(3)), [[-7]])
        self.assertEqual(ask(count_colorings(1)), [[-7]])

    def test_range_of_p(self):
        for p in (1, 10, 0, -1, -3, 2 ** 53, -2 ** 53):
            self.check("tie t 1/end", p, -2)
        for p in range(2, 10):
            self.check("tie t 1/end", p, p)

    def test_limit_at_the_top(self):
        self.check("tie t 11/end", 2, 2048)
        self.check("tie t 12/end", 2, -8)
        self.check("tie t 7/end", 3, 2187)
        self.check("tie t 8/end", 3, -8)
        self.check("tie t 4/end", 7, 2401)
        self.check("tie t 5/end", 7, -8)
        self.check("tie t 3/end", 9, 729)
        self.check("tie t 4/end", 9, -8)

    def test_limit_with_cups(self):
        self.check("tie t 2/cup 1/cap 1/cup 1/cap 1/end", 7, 2401)
        self.check("tie t 2/cup 1/cap 1/cup 1/cap 1/cup 1/cap 1/end", 7, -8)
        self.check("tie t 0/repeat 11/cup 1/cap 1/again/end", 2, 2048)
        self.check("tie t 0/repeat 12/cup 1/cap 1/again/end", 2, -8)
        self.check("tie t 2/repeat 2/cup 2/cap 1/again/end", 7, 49)
        self.check("tie t 2/repeat 12/cup 2/cap 1/again/end", 9, -8)

    def test_range_before_limit(self):
        self.check("tie t 12/end", 10, -2)
        self.check("tie t 12/end", 1, -2)

    def test_no_strands(self):
        self.check("tie t 0/end", 5, 1)
        self.check("tie t 0/cup 1/cap 1/end", 5, 5)

    def test_crossings_leave_all(self):
        self.check("tie t 2/over 1/under 1/end", 3, 9)
        self.check("tie t 3/over 1/over 2/over 1/end", 4, 64)

    def test_caps_join_equal_colors(self):
        self.check("tie t 2/cap 1/end", 5, 5)
        self.check("tie t 4/cap 1/cap 1/end", 5, 25)
        self.check("tie e 1/cup 2/over 1/cap 2/end", 3, 3)
        self.check("tie t 2/over 1/cap 1/end", 4, 4)

    def test_knots(self):
        for p, expected in ((2, 2), (3, 9), (4, 4), (5, 5), (6, 18), (7, 7), (8, 8), (9, 27)):
            self.check(TREFOIL, p, expected)
            self.check(TREFOIL.replace("over", "under"), p, expected)
        for p in (2, 3, 4, 5, 6, 7, 8, 9):
            self.check(FIGURE_EIGHT, p, 25 if p == 5 else p)

    def test_links(self):
        hopf = "tie t 0/cup 1/cup 3/over 2/over 2/cap 3/cap 1/end"
        for p in range(2, 10):
            self.check(hopf, p, p * (2 if p % 2 == 0 else 1))


class ColoringsWith(unittest.TestCase):
    def check(self, shown, p, colors, *expected):
        self.assertEqual(after(shown, colorings_with(p, colors)), [list(expected)], (shown, p, colors))

    def test_no_text(self):
        self.assertEqual(ask(colorings_with(3, [])), [[-7]])
        self.assertEqual(ask(colorings_with(11, [1])), [[-7]])

    def test_range_of_p(self):
        for p in (1, 10, 0, -1, 2 ** 53, -2 ** 53):
            self.check("tie t 1/end", p, [0], -2)
            self.check("tie t 0/end", p, [], -2)
        for p in range(2, 10):
            self.check("tie t 1/end", p, [p - 1], 1, p - 1)

    def test_list_of_colors(self):
        shown = "tie t 2/end"
        self.check(shown, 3, [0, 2], 1, 0, 2)
        for colors in ([], [0], [0, 0, 0], [0, 3], [3, 0], [-1, 0], [0, -1], [0, 2 ** 53], [-2 ** 53, 0], [0] * 20):
            self.check(shown, 3, colors, -2)
        self.check("tie t 0/end", 3, [], 1)
        self.check("tie t 0/end", 3, [0], -2)
        self.check("tie t 12/end", 9, [8] * 12, 1, *[8] * 12)

    def test_limit(self):
        self.check("tie t 12/end", 2, [0] * 12, 1, *[0] * 12)
        self.check("tie t 1/repeat 11/cup 2/cap 1/again/end", 2, [1], 1, 1)
        self.check("tie t 1/repeat 12/cup 2/cap 1/again/end", 2, [1], -8)
        self.check("tie t 1/repeat 3/cup 2/cap 2/again/end", 9, [7], 729, 7)
        self.check("tie t 1/repeat 4/cup 2/cap 2/again/end", 9, [7], -8)
        self.check("tie t 0/repeat 7/cup 1/cap 1/again/end", 3, [], 2187)
        self.check("tie t 0/repeat 8/cup 1/cap 1/again/end", 3, [], -8)

    def test_range_before_limit(self):
        shown = "tie t 1/repeat 12/cup 2/cap 1/again/end"
        self.check(shown, 10, [1], -2)
        self.check(shown, 9, [9], -2)
        self.check(shown, 9, [1, 1], -2)
        self.check(shown, 9, [1], -8)

    def test_crossings(self):
        # The upper strand keeps its color; the lower one is reflected at it.
        self.check("tie t 2/over 1/end", 5, [1, 4], 1, (2 * 1 - 4) % 5, 1)
        self.check("tie t 2/under 1/end", 5, [1, 4], 1, 4, (2 * 4 - 1) % 5)
        self.check("tie t 2/over 1/end", 9, [0, 8], 1, 1, 0)
        self.check("tie t 2/under 1/end", 9, [0, 8], 1, 8, 7)
        self.check("tie t 4/over 2/end", 9, [5, 2, 7, 6], 1, 5, 6, 2, 6)
        self.check("tie t 4/under 2/end", 9, [5, 2, 7, 6], 1, 5, 7, 3, 6)
        self.check("tie t 2/over 1/end", 2, [1, 0], 1, 0, 1)

    def test_none(self):
        self.check("tie t 2/cap 1/end", 3, [1, 2], 0)
        self.check("tie t 4/cap 1/end", 3, [1, 2, 0, 0], 0)
        self.check("tie t 2/cap 1/end", 3, [2, 2], 1)
        self.check("tie t 4/cap 2/end", 3, [1, 2, 2, 0], 1, 1, 0)

    def test_cups(self):
        self.check("tie t 1/cup 1/end", 3, [2], 3, 0, 0, 2)
        self.check("tie t 1/cup 2/end", 3, [2], 3, 2, 0, 0)
        self.check("tie t 1/cup 1/cap 2/end", 3, [2], 1, 2)
        self.check("tie t 2/cup 2/cap 1/over 1/end", 5, [3, 4], 1, 2, 3)

    def test_the_first_cup_counts_most(self):
        # The first cup has the color c and the second, to its left, d = 2 * 1 - c.
        shown = "tie t 1/cup 2/over 1/cup 1/cap 2/end"
        self.check(shown, 3, [1], 3, 2, 1, 0)
        self.check(shown, 9, [1], 9, 2, 1, 0)
        self.check("tie t 0/cup 1/cup 1/end", 3, [], 9, 0, 0, 0, 0)

    def test_the_first_need_not_be_of_color_0(self):
        self.check("tie t 2/cup 2/cap 1/over 1/end", 9, [8, 7], 1, 0, 8)
        self.check("tie t 1/cup 2/cup 4/cap 1/end", 5, [3], 5, 3, 0, 0)

    def test_nothing_is_changed(self):
        shown = "tie t 2/over 1/cup 1/end"
        calls = (events(), components(), colorings_with(3, [1, 2]), count_colorings(3))
        one = after(shown, *calls)
        self.assertEqual(after(shown, *(calls + calls)), one + one)
