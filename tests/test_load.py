import unittest

from helper import ask, bytes_of, components, events, load, load_bytes, word_of

# Twelve tangles, each with a name of its own.
TWELVE = "".join(f"tie {name} 1/end/" for name in "abcdefghijkl")


class Loaded(unittest.TestCase):
    def check(self, shown, *expected):
        self.assertEqual(ask(load(shown)), [list(expected)], shown)

    def test_what_load_answers(self):
        self.check("tie t 2/over 1/under 1/end", 2, 2, 2, 2)
        self.check("tie e 1/cup 2/over 1/cap 2/end", 1, 1, 3, 1)
        self.check("tie t 0/end", 0, 0, 0, 0)
        self.check("tie t 12/end", 12, 12, 0, 0)
        self.check("tie t 3/cup 4/end", 3, 5, 1, 0)
        self.check("tie t 3/cap 2/end", 3, 1, 1, 0)
        self.check("tie t 0/cup 1/cap 1/end", 0, 0, 2, 0)

    def test_events_in_every_place(self):
        self.assertEqual(
            word_of("tie t 3/over 1/under 2/cup 1/cup 6/cup 3/cap 8/over 6/end"),
            [(0, 1), (1, 2), (2, 1), (2, 6), (2, 3), (3, 8), (0, 6)],
        )

    def test_main_tangle_is_the_last(self):
        self.check("tie a 2/over 1/end/tie b 3/cap 1/end", 3, 1, 1, 0)
        self.check("tie b 3/cap 1/end/tie a 2/over 1/end", 2, 2, 1, 1)

    def test_blanks_and_empty_lines(self):
        self.check("/  /   tie   t  2  /  over 1//under   1 /end /  /", 2, 2, 2, 2)
        self.check("tie t 2/end", 2, 2, 0, 0)
        self.check("tie t 2/end/", 2, 2, 0, 0)

    def test_names_like_other_words(self):
        self.check("tie tie 1/end/tie mirror 1/use tie 1/end/tie t 1/use mirror 1 mirror/end", 1, 1, 0, 0)
        self.check("tie end 1/end", 1, 1, 0, 0)

    def test_a_new_text_takes_the_place_of_the_old(self):
        self.assertEqual(
            ask(load("tie t 2/over 1/end"), load("tie t 1/cup 1/end"), events()),
            [[2, 2, 1, 1], [1, 3, 1, 0], [1, 2, 1]],
        )

    def test_a_failed_load_changes_nothing(self):
        good = load("tie t 2/over 1/end")
        for bad in (load("tie u 2/over 2/end"), load("tie u 3/cap 1"), load_bytes([31]), load("")):
            parts = ask(good, bad, events(), components())
            self.assertLess(parts[1][0], 0)
            self.assertEqual(parts[2:], [[1, 0, 1], [2, 0, 2, 0, 101, 1, 2, 1, 100]])

    def test_a_failed_load_loads_nothing(self):
        self.assertEqual(ask(load("tie u 2/over 2/end"), events()), [[-213], [-7]])


class InvalidTexts(unittest.TestCase):
    def answer_to(self, text):
        return ask(load_bytes(text))[0]

    def test_length(self):
        good = bytes_of("tie t 2/end")
        self.assertEqual(self.answer_to(good + [32] * (2000 - len(good))), [2, 2, 0, 0])
        self.assertEqual(self.answer_to(good + [10] * (2000 - len(good))), [2, 2, 0, 0])
        self.assertEqual(self.answer_to(good + [32] * (2001 - len(good))), [-2])
        self.assertEqual(self.answer_to(good + [32] * (2100 - len(good))), [-2])

    def test_bytes(self):
        good = bytes_of("tie t 2/end")
        for byte in (9, 11, 13, 31, 127, 128, 0, -1, 2 ** 53, -2 ** 53, 266, 288):
            self.assertEqual(self.answer_to(good + [byte]), [-2], byte)
            self.assertEqual(self.answer_to([byte] + good), [-2], byte)
        for byte in (10, 32):
            self.assertEqual(self.answer_to(good + [byte]), [2, 2, 0, 0], byte)
        for byte in list(range(33, 127)):
            self.assertEqual(self.answer_to(good + [10, byte]), [-311], byte)

    def test_invalid_before_any_error(self):
        self.assertEqual(self.answer_to(bytes_of("over 1/") + [127]), [-2])
        self.assertEqual(self.answer_to(bytes_of("over 1/") + [32] * 2000), [-2])


class Errors(unittest.TestCase):
    def check(self, line, code, shown):
        self.assertEqual(ask(load(shown)), [[-(100 * line + code + 10)]], shown)

    def fine(self, shown):
        self.assertGreaterEqual(ask(load(shown))[0][0], 0, shown)

    def test_line_numbers(self):
        self.check(1, 1, "x")
        self.check(4, 1, "//tie t 2/x/y/end")
        self.check(2, 1, "tie t 2/x/over 9/over 1/end")
        self.check(1999, 1, "/" * 1998 + "x")

    def test_1_unknown_or_wrong_words(self):
        for line in ("x", "ove 1", "Over 1", "OVER 1", "overs 1", "over1", "over-1", "1", "cup:1", "ends"):
            self.check(2, 1, f"tie t 2/{line}/end")
            self.check(1, 1, line)

    def test_1_number_of_words(self):
        for line in (
            "over", "over 1 1", "under", "under 1 1", "cup", "cup 1 1", "cap", "cap 1 1", "use", "use a",
            "use a 1 mirror mirror", "use a 1 mirror turned", "repeat", "repeat 1 1", "again 1", "end 1", "end end",
        ):
            self.check(4, 1, f"tie a 2/end/tie t 4/{line}/end")
        for line in ("tie", "tie t", "tie t 1 1", "tie 1"):
            self.check(1, 1, f"{line}/end")

    def test_1_form_of_numbers(self):
        for number in ("00", "01", "02", "001", "100", "111", "+1", "-1", "1.", "a", "1a", "a1", "0x1", "?"):
            self.check(1, 1, f"tie t {number}/end")
            for line in ("over", "under", "cup", "cap", "repeat", "use a"):
                self.check(4, 1, f"tie a 2/end/tie t 4/{line} {number}/end")

    def test_1_strand_0(self):
        for line in ("over 0", "under 0", "cup 0", "cap 0", "use a 0", "use b 0", "use a 0 mirror"):
            self.check(4, 1, f"tie a 2/end/tie t 4/{line}/end")

    def test_1_form_of_names(self):
        for name in ("abcdefghi", "A", "aB", "a1", "1a", "1", "a-b", "a_b", "{", "`", "a."):
            self.check(1, 1, f"tie {name} 1/end")
            self.check(2, 1, f"tie t 2/use {name} 1/end")
        for name in ("a", "z", "abcdefgh", "az"):
            self.fine(f"tie {name} 1/end/tie t 1/use {name} 1/end")

    def test_1_manner_of_use(self):
        for manner in ("mirrored", "turn", "Mirror", "1", "a"):
            self.check(4, 1, f"tie a 2/end/tie t 4/use a 1 {manner}/end")

    def test_1_ranges_of_the_lines(self):
        self.fine("tie t 0/end")
        self.fine("tie t 12/end")
        self.check(1, 1, "tie t 13/end")
        self.check(1, 1, "tie t 99/end")
        self.fine("tie t 2/repeat 1/again/end")
        self.fine("tie t 2/repeat 12/again/end")
        self.check(2, 1, "tie t 2/repeat 0/again/end")
        self.check(2, 1, "tie t 2/repeat 13/again/end")

    def test_1_lines_outside_a_tangle(self):
        for line in ("over 1", "under 1", "cup 1", "cap 1", "use a 1", "use b 1", "repeat 2", "again", "end"):
            self.check(1, 1, line)
            self.check(3, 1, f"tie a 2/end/{line}")

    def test_1_tie_inside_a_tangle(self):
        self.check(2, 1, "tie a 2/tie b 2/end")
        self.check(2, 1, "tie a 2/tie a 2/end")

    def test_2_tie(self):
        self.check(3, 2, "tie a 2/end/tie a 3/end")
        self.check(5, 2, "tie a 2/end/tie b 2/end/tie a 2/end")
        self.fine("tie a 2/end/tie aa 2/end")

    def test_2_use(self):
        self.check(2, 2, "tie a 2/use b 1/end")
        self.check(2, 2, "tie a 2/use b 1/end/tie b 2/end")
        self.check(4, 2, "tie b 2/end/tie a 2/use bb 1/end")

    def test_2_use_in_itself(self):
        self.check(2, 2, "tie a 2/use a 1/end")
        self.check(4, 2, "tie b 1/end/tie a 2/use a 1 turned/end")

    def test_3_crossings_and_caps(self):
        for word in ("over", "under", "cap"):
            self.check(2, 3, f"tie t 0/{word} 1/end")
            self.check(2, 3, f"tie t 1/{word} 1/end")
            self.fine(f"tie t 2/{word} 1/end")
            self.check(2, 3, f"tie t 2/{word} 2/end")
            self.fine(f"tie t 12/{word} 11/end")
            self.check(2, 3, f"tie t 12/{word} 12/end")
            self.check(2, 3, f"tie t 12/{word} 99/end")

    def test_3_cups(self):
        self.fine("tie t 0/cup 1/end")
        self.check(2, 3, "tie t 0/cup 2/end")
        self.fine("tie t 3/cup 4/end")
        self.check(2, 3, "tie t 3/cup 5/end")

    def test_3_after_the_number_of_strands_has_changed(self):
        self.fine("tie t 1/cup 2/over 2/end")
        self.check(3, 3, "tie t 1/cup 2/over 3/end")
        self.fine("tie t 4/cap 1/over 1/end")
        self.check(3, 3, "tie t 4/cap 1/over 2/end")

    def test_3_use(self):
        for manner in ("", " mirror"):
            self.fine(f"tie a 3/cap 1/end/tie t 4/use a 2{manner}/end")
            self.check(5, 3, f"tie a 3/cap 1/end/tie t 4/use a 3{manner}/end")
            self.check(5, 3, f"tie a 3/cap 1/end/tie t 2/use a 1{manner}/end")

    def test_3_use_turned_counts_the_bottom(self):
        self.fine("tie a 3/cap 1/end/tie t 4/use a 4 turned/end")
        self.check(5, 3, "tie a 3/cap 1/end/tie t 4/use a 5 turned/end")
        self.fine("tie a 1/cup 1/end/tie t 4/use a 2 turned/end")
        self.check(5, 3, "tie a 1/cup 1/end/tie t 4/use a 3 turned/end")

    def test_3_use_of_no_strands(self):
        self.fine("tie a 0/end/tie t 3/use a 4/end")
        self.check(4, 3, "tie a 0/end/tie t 3/use a 5/end")
        self.fine("tie a 0/end/tie t 0/use a 1/end")
        self.check(4, 3, "tie a 0/end/tie t 0/use a 2/end")

    def test_4_again(self):
        self.check(2, 4, "tie t 2/again/end")
        self.check(4, 4, "tie t 2/repeat 2/again/again/end")
        self.check(4, 4, "tie t 4/repeat 2/cap 1/again/end")
        self.check(4, 4, "tie t 4/repeat 1/cup 1/again/end")
        self.fine("tie t 4/repeat 2/cap 1/cup 1/again/end")

    def test_4_again_looks_at_its_own_repeat(self):
        self.check(6, 4, "tie t 4/repeat 2/cap 1/repeat 2/again/again/end")
        self.fine("tie t 4/repeat 2/cap 1/repeat 2/again/cup 1/again/end")
        self.check(5, 4, "tie t 4/repeat 2/repeat 2/cap 1/again/again/end")

    def test_4_end(self):
        self.check(3, 4, "tie t 2/repeat 2/end")
        self.check(5, 4, "tie t 2/repeat 2/repeat 2/again/end")
        self.check(4, 4, "tie t 4/repeat 2/cap 1/end")

    def test_5_tangles(self):
        self.fine(TWELVE)
        self.check(25, 5, TWELVE + "tie m 1/end")

    def test_5_events_one_by_one(self):
        self.fine("tie t 2" + "/over 1" * 60 + "/end")
        self.check(62, 5, "tie t 2" + "/over 1" * 61 + "/end")
        self.check(62, 5, "tie t 2" + "/over 1" * 60 + "/cap 1/end")

    def test_5_events_of_repeats(self):
        self.fine("tie t 2/repeat 12" + "/over 1" * 5 + "/again/end")
        self.check(9, 5, "tie t 2/repeat 12" + "/over 1" * 5 + "/again/over 1/end")
        self.check(9, 5, "tie t 2/repeat 12" + "/over 1" * 6 + "/again/end")
        self.check(9, 5, "tie t 2/over 1/repeat 12" + "/over 1" * 5 + "/again/end")
        self.fine("tie t 2/repeat 5/repeat 12/over 1/again/again/end")
        self.check(6, 5, "tie t 2/repeat 6/repeat 12/over 1/again/again/end")
        self.fine("tie t 2/repeat 12/repeat 12/repeat 12/again/again/again/end")

    def test_5_events_of_uses(self):
        thirty = "tie a 2/repeat 10/over 1/under 1/over 1/again/end/tie t 2"
        self.fine(thirty + "/use a 1/use a 1 mirror/end")
        self.check(11, 5, thirty + "/use a 1/use a 1/use a 1/end")
        self.check(11, 5, thirty + "/over 1/use a 1/use a 1 turned/end")
        self.check(11, 5, thirty + "/repeat 3/use a 1/again/end")

    def test_5_events_are_counted_for_each_tangle(self):
        sixty = "/repeat 12/over 1/over 1/over 1/over 1/over 1/again/end"
        self.fine("tie a 2" + sixty + "/tie b 2" + sixty)

    def test_5_strands(self):
        self.fine("tie t 10/cup 1/end")
        self.fine("tie t 10/cup 11/end")
        self.check(2, 5, "tie t 11/cup 1/end")
        self.check(2, 5, "tie t 12/cup 13/end")
        self.fine("tie t 0" + "/cup 1" * 6 + "/end")
        self.check(8, 5, "tie t 0" + "/cup 1" * 7 + "/end")
        self.fine("tie t 12/cap 1/cup 1/end")

    def test_5_strands_within_a_use(self):
        inner = "tie a 2/cup 1/cap 2/end/tie t"
        self.fine(f"{inner} 10/use a 9/end")
        self.check(6, 5, f"{inner} 11/use a 9/end")
        self.check(6, 5, f"{inner} 11/use a 1 mirror/end")
        self.check(6, 5, f"{inner} 11/use a 1 turned/end")

    def test_5_repeats(self):
        self.fine("tie t 2" + "/repeat 1" * 4 + "/again" * 4 + "/end")
        self.check(6, 5, "tie t 2" + "/repeat 1" * 5 + "/again" * 5 + "/end")
        self.fine("tie t 2" + ("/repeat 1" * 4 + "/again" * 4) * 3 + "/end")
        self.check(8, 5, "tie t 2" + "/repeat 1" * 4 + "/again/repeat 1/repeat 1/end")

    def test_6_no_tangle(self):
        self.check(2, 6, "")
        self.check(3, 6, "/")
        self.check(5, 6, " //  /")
        self.check(2002, 6, "/" * 2000)

    def test_6_text_ends_inside(self):
        self.check(2, 6, "tie t 2")
        self.check(3, 6, "tie t 2/")
        self.check(3, 6, "tie t 2/over 1")
        self.check(5, 6, "tie t 2/end/tie u 3/over 1")
        self.check(3, 6, "tie t 2/repeat 2")


class OrderOfConditions(unittest.TestCase):
    def check(self, line, code, shown):
        self.assertEqual(ask(load(shown)), [[-(100 * line + code + 10)]], shown)

    def test_first_line_with_an_error(self):
        self.check(2, 3, "tie t 2/over 2/nonsense/end")
        self.check(2, 4, "tie t 2/again/nonsense/end")
        self.check(2, 1, "tie t 2/nonsense/over 2")

    def test_1_before_2(self):
        self.check(2, 1, "tie a 2/tie a 2/end")
        self.check(3, 1, "tie a 2/end/use b 1")
        self.check(2, 1, "tie a 2/use b 0/end")
        self.check(2, 1, "tie a 2/use b 1 over/end")
        self.check(3, 1, "tie a 2/end/tie a 13/end")

    def test_1_before_4(self):
        self.check(3, 1, "tie a 2/end/again")
        self.check(2, 1, "tie a 2/again 1/end")
        self.check(3, 1, "tie a 2/repeat 2/end 1")

    def test_1_before_5(self):
        self.check(25, 1, TWELVE + "tie m 13/end")
        self.check(6, 1, "tie t 2" + "/repeat 1" * 4 + "/repeat 0")
        self.check(2, 1, "tie t 12/cup 0/end")

    def test_2_before_3(self):
        self.check(2, 2, "tie a 2/use b 9/end")

    def test_2_before_5(self):
        self.check(25, 2, TWELVE + "tie a 1/end")
        self.check(62, 2, "tie t 2" + "/over 1" * 60 + "/use b 1/end")

    def test_3_before_5(self):
        self.check(2, 3, "tie t 12/cup 14/end")
        self.check(62, 3, "tie t 2" + "/over 1" * 60 + "/over 2/end")
        self.check(62, 3, "tie t 2" + "/over 1" * 60 + "/cup 4/end")
        self.check(7, 3, "tie a 2/cup 1/cap 1/over 1/end/tie t 12/use a 12/end")
        self.check(65, 3, "tie a 2/over 1/end/tie t 2" + "/over 1" * 60 + "/use a 2/end")

    def test_4_before_5(self):
        self.check(9, 4, "tie t 2/repeat 12" + "/over 1" * 5 + "/cap 1/again/end")
