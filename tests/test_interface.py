import inspect
import unittest

import tiedtangles.tangles
from helper import (
    ask, bytes_of, colorings_with, components, count_colorings, events, joined, linking, load, load_bytes,
)
from tiedtangles.tangles import answers

CALLS = (
    events(), load("tie t 3/over 1/cup 2/under 2/cap 3/end"), events(), components(), linking(0, 1),
    linking(0, 9), count_colorings(3), count_colorings(99), colorings_with(4, [1, 2, 3]),
    colorings_with(4, [1, 2]), load("tie u"), load_bytes([0]), events(),
)


class Interface(unittest.TestCase):
    def test_the_one_argument(self):
        self.assertEqual(list(inspect.signature(answers).parameters), ["calls"])
        self.assertEqual(answers.__module__, "tiedtangles.tangles")
        self.assertIs(answers, tiedtangles.tangles.answers)

    def test_the_flat_form(self):
        text = bytes_of("tie t 2/over 1/end")
        calls = [2, 0, 0, 1, len(text)] + text + [0, 2, 0, 0, 4, 2, 0, 1, 0, 5, 1, 3, 0, 6, 3, 3, 1, 2, 0]
        self.assertEqual(answers(calls), [1, -7, 4, 2, 2, 1, 1, 3, 1, 0, 1, 1, 1, 1, 9, 3, 1, 0, 1])

    def test_an_empty_text(self):
        self.assertEqual(answers([1, 0, 0]), [1, -216])

    def test_every_answer_is_a_list_of_whole_numbers(self):
        answered = answers(joined(CALLS))
        self.assertIs(type(answered), list)
        for number in answered:
            self.assertIs(type(number), int)

    def test_an_error_is_its_code_alone(self):
        for part in ask(*CALLS):
            self.assertEqual([number for number in part if number < 0], part if part[0] < 0 else [])
            self.assertTrue(part[0] >= 0 or len(part) == 1)

    def test_errors_without_a_text(self):
        calls = (events(), components(), linking(0, 0), count_colorings(0), colorings_with(0, []))
        self.assertEqual(ask(*calls), [[-7]] * 5)
        self.assertEqual(ask(load("tie t 2"), *calls), [[-216]] + [[-7]] * 5)

    def test_the_list_handed_in_stays_as_it_is(self):
        calls = joined(CALLS)
        kept = list(calls)
        answers(calls)
        self.assertEqual(calls, kept)

    def test_nothing_is_kept(self):
        calls = joined(CALLS)
        first = answers(calls)
        self.assertEqual(answers(calls), first)
        self.assertEqual(answers(events()), [1, -7])
        self.assertEqual(answers(load("tie t 2/use a 1/end")), [1, -212])
        answers(load("tie a 2/end"))
        self.assertEqual(answers(load("tie t 2/use a 1/end")), [1, -212])
        self.assertEqual(answers(load("tie a 2/end")), [4, 2, 2, 0, 0])

    def test_changing_what_was_answered_changes_nothing(self):
        first = answers(joined(CALLS))
        kept = list(first)
        first.clear()
        self.assertEqual(answers(joined(CALLS)), kept)

    def test_thirty_calls(self):
        self.assertEqual(ask(load("tie t 1/end"), *[events()] * 29), [[1, 1, 0, 0]] + [[0]] * 29)
