import unittest

from helper import after, ask, components, events


class Components(unittest.TestCase):
    def check(self, shown, *expected):
        flat = [len(expected)]
        for number, ends in expected:
            flat.extend([number, len(ends), *ends])
        self.assertEqual(after(shown, components()), [flat], shown)

    def test_no_text(self):
        self.assertEqual(ask(components()), [[-7]])

    def test_strands_alone(self):
        self.check("tie t 0/end")
        self.check("tie t 3/end", (0, [0, 100]), (1, [1, 101]), (2, [2, 102]))
        self.check("tie t 12/end", *[(strand, [strand, 100 + strand]) for strand in range(12)])

    def test_crossings_change_places(self):
        for word in ("over", "under"):
            self.check(f"tie t 3/{word} 1/end", (0, [0, 101]), (1, [1, 100]), (2, [2, 102]))
            self.check(f"tie t 3/{word} 1/{word} 2/end", (0, [0, 102]), (1, [1, 100]), (2, [2, 101]))

    def test_caps_join(self):
        self.check("tie t 3/cap 1/end", (0, [0, 1]), (2, [2, 100]))
        self.check("tie t 3/cap 2/end", (0, [0, 100]), (1, [1, 2]))
        self.check("tie t 4/cap 2/cap 1/end", (0, [0, 3]), (1, [1, 2]))

    def test_cups_begin(self):
        self.check("tie t 1/cup 1/end", (0, [0, 102]), (1, [100, 101]))
        self.check("tie t 1/cup 2/end", (0, [0, 100]), (1, [101, 102]))
        self.check("tie t 0/cup 1/cup 2/end", (0, [100, 103]), (1, [101, 102]))
        self.check("tie t 1/cup 1/cup 3/end", (0, [0, 104]), (1, [100, 101]), (2, [102, 103]))

    def test_closed(self):
        self.check("tie t 0/cup 1/cap 1/end", (0, []))
        self.check("tie t 2/cup 2/cap 2/end", (0, [0, 100]), (1, [1, 101]), (2, []))
        self.check("tie t 0/cup 1/cup 1/cap 2/cap 1/end", (0, []))

    def test_the_smaller_number_is_kept(self):
        self.check("tie t 1/cup 2/cap 1/end", (0, [0, 100]))
        self.check("tie t 1/cup 1/cap 2/end", (0, [0, 100]))
        self.check("tie t 0/cup 1/cup 1/cap 2/end", (0, [100, 101]))

    def test_numbers_are_not_given_again(self):
        self.check("tie t 1/cup 2/cap 1/cup 2/end", (0, [0, 100]), (2, [101, 102]))
        self.check("tie t 2/cap 1/cup 1/cup 3/end", (0, [0, 1]), (2, [100, 101]), (3, [102, 103]))
        self.check("tie t 2/cup 3/cap 2/cup 1/cap 1/end", (0, [0, 100]), (1, [1, 101]), (3, []))

    def test_joined_step_by_step(self):
        # Components 1 and 2 become one first, which is joined to component 0 after that.
        self.check("tie t 1/cup 2/cup 4/cap 3/cap 1/end", (0, [0, 100]))
        self.check("tie t 1/cup 2/cup 4/cap 3/end", (0, [0, 100]), (1, [101, 102]))

    def test_ends_in_increasing_order(self):
        self.check("tie t 2/cup 1/over 2/over 3/cap 3/end", (0, [0, 101]), (1, [1, 100]))

    def test_nothing_is_changed(self):
        self.assertEqual(
            after("tie t 2/cap 1/cup 1/end", components(), components(), events()),
            [[2, 0, 2, 0, 1, 2, 2, 100, 101]] * 2 + [[2, 3, 1, 2, 1]],
        )
