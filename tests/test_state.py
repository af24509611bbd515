"""Which calls change the current word, and which calls speak of it."""

import unittest

from helper import (
    HOPF_LINK, TREFOIL, UNKNOT, after, apply_move, ask, colorings_with, compare, components, count_colorings,
    events, linking, load, load_bytes, moves, reset, simplify,
)

# A strand bent back and forth, beside another that it crosses twice.
BENT = "tie t 2/cup 1/cap 2/over 1/over 1/end"


class CurrentWord(unittest.TestCase):
    def test_events_of_the_current_word(self):
        self.assertEqual(after(BENT, events(), apply_move(0), events()), [
            [4, 2, 1, 3, 2, 0, 1, 0, 1], [2, 2], [2, 0, 1, 0, 1],
        ])

    def test_components_of_the_current_word(self):
        # The cup that makes component 3 goes, and the cup of component 4 takes the number.
        shown = "tie t 1/cup 1/cap 2/cup 2/cup 4/end"
        self.assertEqual(after(shown, components(), apply_move(0), components()), [
            [3, 0, 2, 0, 100, 2, 2, 101, 102, 3, 2, 103, 104], [2, 0],
            [3, 0, 2, 0, 100, 1, 2, 101, 102, 2, 2, 103, 104],
        ])

    def test_linking_of_the_current_word(self):
        shown = "tie t 1/cup 1/cap 2/cup 2/over 1/over 1/end"
        self.assertEqual(after(shown, linking(0, 2), linking(0, 1), apply_move(0), linking(0, 2), linking(0, 1)), [
            [2], [-2], [3, 2], [-2], [2],
        ])

    def test_colorings_of_the_current_word(self):
        shown = "tie t 1/repeat 7/cup 1/cap 2/again/end"
        self.assertEqual(
            after(shown, count_colorings(3), colorings_with(4, [2]), colorings_with(3, [2]), apply_move(0),
                  count_colorings(3), apply_move(0), colorings_with(4, [2]), count_colorings(3)),
            [[-8], [-8], [1, 2], [12, 0], [3], [10, 0], [1, 2], [3]],
        )

    def test_moves_of_the_current_word(self):
        self.assertEqual(after(TREFOIL, moves(), apply_move(0), moves()), [
            [4, 0, 7, 1, 9, 4, 11, 5, 7], [7, 3], [4, 0, 7, 1, 8, 4, 11, 5, 7],
        ])


class Reset(unittest.TestCase):
    def test_no_text(self):
        self.assertEqual(ask(reset(), load("tie t 0"), reset()), [[-7], [-216], [-7]])

    def test_after_moves(self):
        calls = [apply_move(0), apply_move(0), reset(), events(), moves()]
        self.assertEqual(after("tie t 2/over 1/over 1/under 1/under 1/end", *calls), [
            [2, 2], [0, 0], [4], [4, 0, 1, 0, 1, 1, 1, 1, 1], [1, 1, 1],
        ])

    def test_without_moves_and_twice(self):
        self.assertEqual(after(BENT, reset(), reset(), apply_move(0), reset(), reset(), events()), [
            [4], [4], [2, 2], [4], [4], [4, 2, 1, 3, 2, 0, 1, 0, 1],
        ])
        self.assertEqual(after("tie t 3/end", reset()), [[0]])

    def test_moves_again_after_it(self):
        self.assertEqual(after(BENT, apply_move(0), reset(), apply_move(0), events(), reset(), events()), [
            [2, 2], [4], [2, 2], [2, 0, 1, 0, 1], [4], [4, 2, 1, 3, 2, 0, 1, 0, 1],
        ])

    def test_the_word_of_the_last_text(self):
        calls = [apply_move(0), load(HOPF_LINK), apply_move(0), reset(), events()]
        self.assertEqual(after(BENT, *calls), [
            [2, 2], [0, 0, 6, 2], [6, 2], [6], [6, 2, 1, 2, 3, 0, 2, 0, 2, 3, 1, 3, 1],
        ])


class Load(unittest.TestCase):
    def test_a_new_text_puts_its_own_word_in_the_place(self):
        self.assertEqual(after(BENT, apply_move(0), load(BENT), events()), [
            [2, 2], [2, 2, 4, 2], [4, 2, 1, 3, 2, 0, 1, 0, 1],
        ])
        self.assertEqual(after(BENT, apply_move(0), load("tie t 1/end"), events(), components(), moves()), [
            [2, 2], [1, 1, 0, 0], [0], [1, 0, 2, 0, 100], [0],
        ])

    def test_a_refused_text_changes_nothing(self):
        for refused, code in ((load("tie t 1/over 1/end"), -213), (load(""), -216), (load_bytes([0]), -2)):
            calls = [apply_move(0), refused, events(), moves(), reset()]
            self.assertEqual(after(BENT, *calls), [[2, 2], [code], [2, 0, 1, 0, 1], [0], [4]])


class ManyCalls(unittest.TestCase):
    CALLS = (
        load(BENT), events(), components(), linking(0, 1), count_colorings(3), colorings_with(3, [0, 1]), moves(),
        apply_move(0), simplify(1), reset(), compare(UNKNOT),
    )

    def test_each_call_at_the_beginning(self):
        for call in self.CALLS[1:]:
            self.assertEqual(ask(call), [[-7]])
            self.assertEqual(ask(call, self.CALLS[0], call)[0], [-7])

    def test_each_call_behind_each(self):
        alone = [ask(self.CALLS[0], call)[1] for call in self.CALLS]
        for first in self.CALLS:
            for call, expected in zip(self.CALLS, alone):
                self.assertEqual(ask(self.CALLS[0], first, reset(), call)[3], expected)

    def test_thirty_moves(self):
        # The two crossings change places each time.
        calls = [apply_move(0)] * 28 + [events()]
        self.assertEqual(after("tie t 4/over 1/under 3/end", *calls), [[2, 2]] * 28 + [[2, 0, 1, 1, 3]])
        self.assertEqual(after("tie t 4/over 1/under 3/end", *calls[1:])[-1], [2, 1, 3, 0, 1])
