import unittest

from helper import (
    FIGURE_EIGHT, HOPF_LINK, TREFOIL, UNKNOT, after, apply_move, ask, compare, compare_bytes, components,
    count_colorings, events, load, moves, reset, samples, simplify, text_for,
)


def padded(shown, cups):
    """The text, a knot that has one strand 1 at some height, with so many cups and caps more on it."""
    return shown.replace("/cap 1/end", f"/repeat {cups}/cup 1/cap 2/again/cap 1/end")


class Compare(unittest.TestCase):
    def check(self, shown, other, expected):
        self.assertEqual(after(shown, compare(other)), [[expected]], (shown, other))

    def both_ways(self, shown, other, expected):
        self.check(shown, other, expected)
        self.check(other, shown, expected)

    def test_0_no_difference(self):
        for shown in (TREFOIL, FIGURE_EIGHT, HOPF_LINK, UNKNOT, "tie t 0/end", "tie t 12/end"):
            self.check(shown, shown, 0)
        self.both_ways("tie t 2/over 1/under 1/end", "tie u 2/end", 0)
        self.both_ways(UNKNOT, "tie u 0/cup 1/cup 3/over 2/cap 1/cap 1/end", 0)
        self.both_ways("tie t 2/over 1/end", "tie t 2/under 1/end", 0)

    def test_0_other_names_and_other_tangles_before(self):
        self.both_ways(TREFOIL, "tie a 4/repeat 3/over 2/again/end/tie b 0/cup 1/cup 3/use a 1/cap 1/cap 1/end", 0)
        self.check("tie a 3/end/tie b 1/end", "tie b 1/end", 0)
        self.check("tie a 3/end/tie b 1/end", "tie a 3/end", 1)

    def test_1_strands_at_the_top(self):
        self.both_ways("tie t 2/end", "tie t 3/end", 1)
        self.both_ways("tie t 0/cup 1/end", "tie t 2/end", 1)
        self.both_ways("tie t 1/end", "tie t 3/cap 1/end", 1)

    def test_1_strands_at_the_bottom(self):
        self.both_ways("tie t 2/end", "tie t 2/cup 1/end", 1)
        self.both_ways("tie t 2/end", "tie t 2/cap 1/end", 1)
        self.both_ways("tie t 0/end", "tie t 0/cup 1/end", 1)

    def test_2_ends_that_belong_together(self):
        self.both_ways("tie t 2/end", "tie t 2/over 1/end", 2)
        self.both_ways("tie t 2/end", "tie t 2/cap 1/cup 1/end", 2)
        self.both_ways("tie t 4/cap 1/cap 1/end", "tie t 4/cap 2/cap 1/end", 2)
        self.both_ways("tie t 0/cup 1/cup 1/end", "tie t 0/cup 1/cup 2/end", 2)
        self.both_ways("tie t 3/over 1/over 2/end", "tie t 3/over 2/over 1/end", 2)

    def test_2_the_number_of_closed_components(self):
        self.both_ways("tie t 0/end", UNKNOT, 2)
        self.both_ways(UNKNOT, "tie t 0/cup 1/cap 1/cup 1/cap 1/end", 2)
        self.both_ways("tie t 1/end", "tie t 1/cup 1/cap 1/end", 2)
        self.both_ways(TREFOIL, HOPF_LINK, 2)

    def test_2_not_the_numbers_of_the_components(self):
        # The same ends belong together, but the components 2 and 3 have changed places.
        self.both_ways("tie t 2/cup 3/cup 1/end", "tie t 2/cup 1/cup 5/end", 0)
        self.check("tie t 1/cup 1/cap 1/cup 2/end", "tie t 1/cup 2/cup 1/cap 1/end", 0)

    def test_3_linkings(self):
        self.both_ways("tie t 2/end", "tie t 2/over 1/over 1/end", 3)
        self.both_ways("tie t 2/over 1/under 1/end", "tie t 2/over 1/over 1/end", 3)
        self.both_ways(HOPF_LINK, "tie v 0/cup 1/cup 3/cap 1/cap 1/end", 3)
        self.both_ways(HOPF_LINK, HOPF_LINK.replace("over 2/over 2", "over 2/over 2/over 2/over 2"), 3)

    def test_3_is_a_sorted_list_of_them_all(self):
        two = "tie t 4/over 1/over 1/over 3/over 3/end"
        self.both_ways(two, "tie t 4/over 1/over 1/end", 3)
        self.both_ways(two, "tie t 4/over 1/over 1/over 1/over 1/end", 3)
        # The same numbers, but of other pairs of components.
        self.both_ways(two, "tie t 4/over 2/over 2/over 1/over 1/end", 0)
        self.both_ways("tie t 3/over 1/over 1/end", "tie t 3/over 2/over 2/end", 0)

    def test_3_not_the_signs(self):
        self.both_ways(HOPF_LINK, HOPF_LINK.replace("over", "under"), 0)
        self.both_ways("tie t 2/over 1/over 1/end", "tie t 2/under 1/under 1/end", 0)

    def test_4_colorings_with_3_colors(self):
        self.both_ways(TREFOIL, UNKNOT, 4)
        self.both_ways(TREFOIL, FIGURE_EIGHT, 4)
        self.both_ways(TREFOIL, TREFOIL.replace("over", "under"), 0)

    def test_5_colorings_with_5_colors(self):
        self.both_ways(FIGURE_EIGHT, UNKNOT, 5)
        self.both_ways(FIGURE_EIGHT, "tie u 0/cup 1/cup 3/over 2/cap 1/cap 1/end", 5)

    def test_no_other_number_of_colors(self):
        # Only 7 of the colors tell this knot from the unknot.
        knot = TREFOIL.replace("over 2/over 2/over 2", "repeat 7/over 2/again")
        counted, plain = (after(shown, *[count_colorings(p) for p in (3, 5, 7)]) for shown in (knot, UNKNOT))
        self.assertEqual((counted, plain), ([[3], [5], [49]], [[3], [5], [7]]))
        self.both_ways(knot, UNKNOT, 0)

    def test_the_first_difference_counts(self):
        self.both_ways("tie t 2/over 1/over 1/end", "tie t 2/cup 1/cap 1/cup 1/end", 1)
        self.both_ways("tie t 2/over 1/over 1/cup 1/cap 1/end", "tie t 2/end", 2)
        trefoil_and_ring = TREFOIL.replace("/end", "/cup 1/cap 1/end")
        self.both_ways(trefoil_and_ring, HOPF_LINK, 3)
        self.both_ways(TREFOIL, FIGURE_EIGHT, 4)


class Limits(unittest.TestCase):
    def check(self, shown, other, expected):
        self.assertEqual(after(shown, compare(other)), [[expected]], (shown, other))
        self.assertEqual(after(other, compare(shown)), [[expected]], (shown, other))

    def test_5_is_left_out_beyond_the_limit(self):
        just, beyond = padded(FIGURE_EIGHT, 1), padded(FIGURE_EIGHT, 2)
        self.assertEqual(after(just, count_colorings(5)), [[25]])
        self.assertEqual(after(beyond, count_colorings(5), count_colorings(3)), [[-8], [3]])
        self.check(just, UNKNOT, 5)
        self.check(beyond, UNKNOT, 0)
        self.check(FIGURE_EIGHT, padded(UNKNOT, 3), 5)
        self.check(FIGURE_EIGHT, padded(UNKNOT, 4), 0)

    def test_4_is_left_out_beyond_the_limit(self):
        just, beyond = padded(TREFOIL, 5), padded(TREFOIL, 6)
        self.assertEqual(after(just, count_colorings(3), count_colorings(5)), [[9], [-8]])
        self.assertEqual(after(beyond, count_colorings(3)), [[-8]])
        self.check(just, UNKNOT, 4)
        self.check(beyond, UNKNOT, 0)
        self.check(TREFOIL, padded(UNKNOT, 6), 4)
        self.check(TREFOIL, padded(UNKNOT, 7), 0)

    def test_strands_at_the_top_count(self):
        trefoil = TREFOIL.replace("tie t 0", "tie t 5")
        self.check(trefoil, UNKNOT.replace("tie u 0", "tie u 5"), 4)
        self.check(TREFOIL.replace("tie t 0", "tie t 6"), UNKNOT.replace("tie u 0", "tie u 6"), 0)
        self.check(FIGURE_EIGHT.replace("tie f 0", "tie f 1"), UNKNOT.replace("tie u 0", "tie u 1"), 5)
        self.check(FIGURE_EIGHT.replace("tie f 0", "tie f 2"), UNKNOT.replace("tie u 0", "tie u 2"), 0)

    def test_the_limit_is_that_of_the_current_word(self):
        # Each move of kind 4 takes one cup away.
        beyond = padded(FIGURE_EIGHT, 2)
        found = after(beyond, moves())[0]
        index = found[2::2].index(4)
        answered = after(beyond, compare(UNKNOT), apply_move(index), compare(UNKNOT), reset(), compare(UNKNOT))
        self.assertEqual(answered, [[0], [12, 4], [5], [14], [0]])


class Errors(unittest.TestCase):
    def check(self, other, expected):
        calls = [compare(other), events(), compare("tie t 2/over 1/end")]
        self.assertEqual(after("tie t 2/over 1/end", *calls), [[expected], [1, 0, 1], [0]], other)

    def test_no_text(self):
        self.assertEqual(ask(compare(UNKNOT), compare(""), compare_bytes([0])), [[-7]] * 3)
        self.assertEqual(ask(compare(UNKNOT), load("tie t"), compare(UNKNOT)), [[-7], [-111], [-7]])

    def test_invalid_texts(self):
        for text in ([0], [9], [11], [13], [31], [127], [-1], [2 ** 53], [-2 ** 53], [32] * 2001):
            self.assertEqual(after("tie t 2/end", compare_bytes(text), events()), [[-2], [0]])

    def test_invalid_before_any_error_in_the_text(self):
        self.assertEqual(after("tie t 2/end", compare_bytes([120, 10, 127])), [[-2]])
        self.assertEqual(after("tie t 2/end", compare_bytes([120] * 2001)), [[-2]])

    def test_the_longest_text(self):
        shown = "tie t 2/end"
        self.assertEqual(after(shown, compare(shown + " " * (2000 - len(shown)))), [[0]])
        self.assertEqual(after(shown, compare(shown + " " * (2001 - len(shown)))), [[-2]])

    def test_each_error_in_a_text(self):
        self.check("", -216)
        self.check("tie t 2/over 0/end", -211)
        self.check("tie t 2//end/tie t 2", -412)
        self.check("tie t 2/use u 1/end", -212)
        self.check("tie t 2/over 2/end", -213)
        self.check("tie t 2/again/end", -214)
        self.check("tie t 2/repeat 12/repeat 12/over 1/again/again/end", -615)
        self.check("tie t 2/over 1", -316)
        self.check("tie t 2/over 1/", -416)

    def test_an_error_before_any_difference(self):
        self.check("tie t 3/cap 3/end", -213)
        self.check("tie t 12/cup 1/end", -215)

    def test_tangles_of_the_loaded_text_are_not_there(self):
        self.assertEqual(after("tie a 2/end/tie b 2/end", compare("tie c 2/use a 1/end")), [[-212]])
        self.assertEqual(after("tie a 2/end/tie b 2/end", compare("tie a 2/end"), compare("tie b 2/end")), [[0], [0]])


class Unchanged(unittest.TestCase):
    def test_the_state_is_not_changed(self):
        word = "tie e 1/cup 2/over 1/cap 2/end"
        others = ("tie e 1/end", TREFOIL, "tie t 1/cup 1/cap 1/end", "tie t 3", "over")
        asked = [events(), moves(), components(), count_colorings(4), simplify(2)]
        for other in others:
            before = after(word, apply_move(0), *asked, reset())
            behind = after(word, apply_move(0), compare(other), *asked, reset())
            self.assertEqual(behind[2:], before[1:], other)

    def test_the_current_word_is_compared(self):
        # 3 ** 8 is beyond the limit for the main tangle, 3 ** 7 not for the word after the move.
        main = padded(TREFOIL, 6)
        index = after(main, moves())[0][2::2].index(4)
        self.assertEqual(after(main, compare(UNKNOT), apply_move(index), compare(UNKNOT)), [[0], [17, 3], [4]])

    def test_a_tangle_and_itself(self):
        for top, word in samples(40, 20, 6):
            self.assertEqual(after(text_for(top, word), compare(text_for(top, word))), [[0]])
