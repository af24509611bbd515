import unittest

from helper import after, ask, linking


class Linking(unittest.TestCase):
    def check(self, shown, component1, component2, expected):
        calls = (linking(component1, component2), linking(component2, component1))
        self.assertEqual(after(shown, *calls), [[expected]] * 2, shown)

    def test_no_text(self):
        self.assertEqual(ask(linking(0, 1)), [[-7]])
        self.assertEqual(ask(linking(0, 0)), [[-7]])

    def test_not_a_component(self):
        for pair in ((0, 2), (-1, 0), (0, 100), (0, 2 ** 53), (-2 ** 53, 1), (2, 3)):
            self.check("tie t 2/over 1/end", *pair, -2)
        self.check("tie t 0/end", 0, 1, -2)

    def test_equal(self):
        self.check("tie t 2/over 1/end", 0, 0, -2)
        self.check("tie t 2/over 1/end", 7, 7, -2)

    def test_joined_numbers_are_none(self):
        joined = "tie t 1/cup 2/over 1/over 1/cap 1/cup 1/end"
        self.check(joined, 0, 1, -2)
        self.check(joined, 0, 2, 0)
        self.check("tie t 2/cap 1/end", 0, 1, -2)

    def test_both_downwards(self):
        self.check("tie t 2/end", 0, 1, 0)
        self.check("tie t 2/over 1/end", 0, 1, 1)
        self.check("tie t 2/under 1/end", 0, 1, 1)
        self.check("tie t 2/over 1/over 1/end", 0, 1, 2)
        self.check("tie t 2/under 1/under 1/under 1/end", 0, 1, 3)
        self.check("tie t 2/over 1/under 1/end", 0, 1, 0)
        self.check("tie t 2/over 1/under 1/under 1/end", 0, 1, 1)

    def test_each_pair_by_itself(self):
        shown = "tie t 3/over 1/over 2/over 1/under 2/under 2/end"
        # The strands 0 and 1 cross first, then 0 and 2, then 1 and 2, then 0 and 1 twice.
        self.check(shown, 0, 1, 1)
        self.check(shown, 0, 2, 1)
        self.check(shown, 1, 2, 1)

    def test_directions_differ(self):
        # Both halves of the cup cross the strand: one goes down and the other up.
        self.check("tie t 1/cup 2/over 1/over 2/end", 0, 1, 0)
        self.check("tie t 1/cup 2/under 1/under 2/end", 0, 1, 0)
        self.check("tie t 1/cup 2/over 1/under 2/end", 0, 1, 2)
        self.check("tie t 1/cup 2/under 1/over 2/end", 0, 1, 2)
        self.check("tie t 1/cup 2/over 1/end", 0, 1, 1)

    def test_joined_after_the_crossing(self):
        # At the crossings the strands 0, 1 and 2 are still three components.
        self.check("tie t 3/over 1/over 2/cap 1/end", 0, 1, 0)
        self.check("tie t 3/over 1/under 2/cap 1/end", 0, 1, 2)
        self.check("tie t 3/over 1/under 2/over 1/cap 2/end", 0, 2, 2)

    def test_crossings_with_itself_do_not_count(self):
        self.check("tie t 2/over 1/cup 3/over 2/cap 3/end", 0, 1, 1)
        self.check("tie t 2/cup 3/over 2/over 2/over 2/cap 3/end", 0, 1, 0)

    def test_closed_components(self):
        self.check("tie t 0/cup 1/cup 3/over 2/over 2/cap 3/cap 1/end", 0, 1, 2)
        self.check("tie t 0/cup 1/cup 3/under 2/under 2/cap 3/cap 1/end", 0, 1, 2)
        self.check("tie t 0/cup 1/cup 3/over 2/under 2/cap 3/cap 1/end", 0, 1, 0)
        self.check("tie t 0/cup 1/cup 3/repeat 6/over 2/over 2/again/cap 3/cap 1/end", 0, 1, 12)

    def test_a_chain_of_joins_turns_directions(self):
        # A strand wanders down, up and down again past component 1 ahead of it.
        self.check("tie t 2/cup 2/cap 1/over 1/end", 0, 1, 1)
        self.check("tie t 2/over 1/cup 3/cap 2/over 1/end", 0, 1, 2)
        self.check("tie t 2/over 1/cup 3/cap 2/under 1/end", 0, 1, 0)
        self.check("tie t 2/cup 3/over 1/under 2/cap 1/over 1/end", 0, 1, 3)
        self.check("tie t 2/cup 3/over 1/under 2/cap 1/under 1/end", 0, 1, 1)
        self.check("tie t 2/cup 3/over 1/over 2/cap 1/under 1/end", 0, 1, 1)

    def test_moves_leave_it(self):
        for one, other in (
            ("tie t 2/cup 2/over 3/over 1/end", "tie t 2/cup 3/under 2/over 1/end"),
            ("tie t 3/over 1/under 2/cap 1/end", "tie t 3/over 1/over 1/cap 2/end"),
            ("tie t 3/over 1/over 2/under 1/end", "tie t 3/under 2/over 1/over 2/end"),
        ):
            for pair in ((0, 1), (0, 2), (1, 2)):
                calls = (linking(*pair),)
                self.assertEqual(after(one, *calls), after(other, *calls), (one, pair))
