import inspect
import unittest

import tiedtangles.tangles
from helper import (
    apply_move, ask, bytes_of, colorings_with, compare, compare_bytes, components, count_colorings, events, joined,
    linking, load, load_bytes, moves, reset, samples, simplify, text_for,
)
from tiedtangles.tangles import answers

CALLS = (
    events(), load("tie t 3/over 1/cup 2/under 2/cap 3/end"), events(), components(), linking(0, 1),
    linking(0, 9), count_colorings(3), count_colorings(99), colorings_with(4, [1, 2, 3]),
    colorings_with(4, [1, 2]), load("tie u"), load_bytes([0]), events(), moves(), apply_move(0), apply_move(-1),
    simplify(2), simplify(5), compare("tie u 3/end"), compare("tie u"), compare_bytes([0]), reset(), events(),
)
# What a whole number that is handed in may be at most, and at least.
MOST = 2 ** 53


class Interface(unittest.TestCase):
    def test_the_one_argument(self):
        self.assertEqual(list(inspect.signature(answers).parameters), ["calls"])
        self.assertEqual(answers.__module__, "tiedtangles.tangles")
        self.assertIs(answers, tiedtangles.tangles.answers)

    def test_the_flat_form(self):
        text = bytes_of("tie t 2/over 1/end")
        calls = [2, 0, 0, 1, len(text)] + text + [0, 2, 0, 0, 4, 2, 0, 1, 0, 5, 1, 3, 0, 6, 3, 3, 1, 2, 0]
        self.assertEqual(answers(calls), [1, -7, 4, 2, 2, 1, 1, 3, 1, 0, 1, 1, 1, 1, 9, 3, 1, 0, 1])

    def test_an_empty_text(self):
        self.assertEqual(answers([1, 0, 0]), [1, -216])

    def test_every_answer_is_a_list_of_whole_numbers(self):
        answered = answers(joined(CALLS))
        self.assertIs(type(answered), list)
        for number in answered:
            self.assertIs(type(number), int)

    def test_an_error_is_its_code_alone(self):
        for part in ask(*CALLS):
            self.assertEqual([number for number in part if number < 0], part if part[0] < 0 else [])
            self.assertTrue(part[0] >= 0 or len(part) == 1)

    def test_the_flat_form_of_the_later_calls(self):
        text = bytes_of("tie t 2/over 1/under 1/end")
        calls = [1, len(text)] + text + [0, 7, 0, 0, 9, 1, 1, 0, 8, 1, 0, 0, 11, len(text)] + text + [0, 10, 0, 0]
        self.assertEqual(answers(calls), [4, 2, 2, 2, 2, 3, 1, 0, 1, 3, 0, 1, 2, 2, 0, 0, 1, 0, 1, 2])

    def test_errors_without_a_text(self):
        calls = (
            events(), components(), linking(0, 0), count_colorings(0), colorings_with(0, []), moves(),
            apply_move(0), simplify(9), reset(), compare("tie t 1/end"), compare(""), compare_bytes([0]),
        )
        self.assertEqual(ask(*calls), [[-7]] * 12)
        self.assertEqual(ask(load("tie t 2"), *calls), [[-216]] + [[-7]] * 12)

    def test_the_largest_and_the_smallest_numbers(self):
        for number in (MOST, -MOST):
            calls = (
                load_bytes([number]), linking(number, 0), linking(0, number), count_colorings(number),
                colorings_with(number, []), colorings_with(3, [number]), apply_move(number), simplify(number),
                compare_bytes([number]), events(),
            )
            refused = [[-2], [-2], [-2], [-2], [-2], [-2], [-3], [-2], [-2], [0]]
            self.assertEqual(ask(load("tie t 1/end"), *calls)[1:], refused)
            self.assertEqual(ask(*calls), [[-2]] + [[-7]] * 9)

    def test_longest_lists(self):
        self.assertEqual(ask(load_bytes([32] * 2100), load("tie t 1/end"), compare_bytes([32] * 2100)), [
            [-2], [1, 1, 0, 0], [-2],
        ])
        self.assertEqual(ask(load("tie t 1/end"), colorings_with(2, [0] * 20), colorings_with(2, []))[1:], [[-2]] * 2)

    def test_no_call_raises(self):
        calls = CALLS[:1] + CALLS[2:]
        for top, word in samples(25, 25, 12):
            for call in calls:
                self.assertEqual(len(ask(load(text_for(top, word)), call, apply_move(0), call)), 4)

    def test_the_list_handed_in_stays_as_it_is(self):
        calls = joined(CALLS)
        kept = list(calls)
        answers(calls)
        self.assertEqual(calls, kept)

    def test_nothing_is_kept(self):
        calls = joined(CALLS)
        first = answers(calls)
        self.assertEqual(answers(calls), first)
        self.assertEqual(answers(events()), [1, -7])
        self.assertEqual(answers(load("tie t 2/use a 1/end")), [1, -212])
        answers(load("tie a 2/end"))
        self.assertEqual(answers(load("tie t 2/use a 1/end")), [1, -212])
        self.assertEqual(answers(load("tie a 2/end")), [4, 2, 2, 0, 0])

    def test_changing_what_was_answered_changes_nothing(self):
        first = answers(joined(CALLS))
        kept = list(first)
        first.clear()
        self.assertEqual(answers(joined(CALLS)), kept)

    def test_thirty_calls(self):
        self.assertEqual(ask(load("tie t 1/end"), *[events()] * 29), [[1, 1, 0, 0]] + [[0]] * 29)
