import unittest

from helper import (
    FIGURE_EIGHT, TREFOIL, UNKNOT, after, apply_move, ask, components, count_colorings, events, load, moves,
    plain_moves, reset, samples, simplify, text_for, word_of,
)

# Texts whose levels 0 to 4 have just so many words.
WORDS_599 = (
    "tie t 6/under 5/under 1/over 1/cup 4/under 5/cup 6/under 8/under 5/cap 4/under 1/over 6/end"
)
WORDS_600 = (
    "tie t 6/under 4/under 3/cup 1/under 7/over 1/cup 5/cap 2/cap 6/under 1/cap 4/cup 1/end"
)
WORDS_601 = (
    "tie t 7/cup 4/under 6/over 2/over 1/over 8/over 3/cap 8/over 2/cap 6/cap 4/cap 1/end"
)
# Two strands that can only be untwisted, one crossing pair after the other.
BRAID = "tie t 2/repeat 3/over 1/under 1/again/end"
MANY_WORDS = "tie t 12/repeat 6/over 1/over 3/over 5/over 7/over 9/over 11/again/end"


def plain_levels(word, levels):
    """Levels 0 to `levels`, each a set of words, as DOC.md defines them."""
    found = [{tuple(word)}]
    for number in range(levels):
        reached = {tuple(then) for before in found[-1] for index, kind, then in plain_moves(list(before))}
        found.append(reached.difference(*found))
    return found


def plain_answer(word, levels):
    found = plain_levels(word, levels)
    words = sum(len(level) for level in found)
    if words > 600:
        return [-8]
    fewest = [min([crossings_of(word) for word in level], default=99) for level in found]
    return [min(fewest), fewest.index(min(fewest)), words]


def crossings_of(word):
    return len([kind for kind, strand in word if kind < 2])


class Simplify(unittest.TestCase):
    def check(self, shown, *expected):
        """What simplify answers for 0, 1, 2 and so on."""
        calls = [simplify(levels) for levels in range(len(expected))]
        self.assertEqual(after(shown, *calls), list(expected), shown)

    def test_no_text(self):
        self.assertEqual(ask(simplify(1), simplify(-1), simplify(5), simplify(0)), [[-7]] * 4)

    def test_range_of_levels(self):
        for levels in (-1, 5, 6, -2, 100, 2 ** 53, -2 ** 53):
            self.assertEqual(after("tie t 1/end", simplify(levels)), [[-2]])
            self.assertEqual(after(MANY_WORDS, simplify(levels)), [[-2]])
        for levels in range(5):
            self.assertEqual(after("tie t 1/end", simplify(levels)), [[0, 0, 1]])

    def test_level_0_is_the_word_alone(self):
        for shown in (TREFOIL, FIGURE_EIGHT, UNKNOT, BRAID, MANY_WORDS):
            word = word_of(shown)
            self.assertEqual(after(shown, simplify(0)), [[crossings_of(word), 0, 1]])

    def test_a_crossing_fewer_with_each_level(self):
        self.check(BRAID, [6, 0, 1], [4, 1, 2], [2, 2, 3], [0, 3, 4], [0, 3, 4])

    def test_the_first_level_with_the_smallest_number(self):
        self.check("tie e 1/cup 2/over 1/cap 2/end", [1, 0, 1], [1, 0, 3], [0, 2, 5], [0, 2, 6], [0, 2, 6])
        self.check("tie t 3/cup 1/cap 2/over 1/under 1/end", [2, 0, 1], [0, 1, 3], [0, 1, 4], [0, 1, 4])

    def test_words_of_earlier_levels_are_not_counted_again(self):
        # The one move leads back and forth between two words.
        self.check("tie t 4/over 1/over 3/end", [2, 0, 1], [2, 0, 2], [2, 0, 2], [2, 0, 2], [2, 0, 2])

    def test_two_ways_to_one_word_count_once(self):
        self.check("tie t 2/over 1/under 1/over 1/end", [3, 0, 1], [1, 1, 2], [1, 1, 2])
        self.check("tie t 6/over 1/over 3/over 5/end", [3, 0, 1], [3, 0, 3], [3, 0, 5], [3, 0, 6], [3, 0, 6])

    def test_knots_stay_knotted(self):
        self.check(TREFOIL, [3, 0, 1], [3, 0, 5], [3, 0, 11], [3, 0, 15], [3, 0, 16])
        self.check(FIGURE_EIGHT, [4, 0, 1], [4, 0, 3], [4, 0, 8], [4, 0, 18], [4, 0, 36])

    def test_just_600_words(self):
        for shown, words in ((WORDS_599, 599), (WORDS_600, 600), (WORDS_601, 601)):
            word = word_of(shown)
            self.assertEqual(sum(len(level) for level in plain_levels(word, 4)), words)
            self.assertEqual(after(shown, simplify(4)), [plain_answer(word, 4)])
            self.assertEqual(after(shown, simplify(4))[0] == [-8], words > 600)
            self.assertEqual(after(shown, simplify(3)), [plain_answer(word, 3)])

    def test_too_many_words_at_an_early_level(self):
        self.check(MANY_WORDS, [36, 0, 1], [36, 0, 36], [-8], [-8], [-8])

    def test_the_current_word_stays(self):
        calls = [apply_move(0), events(), moves(), simplify(4), events(), moves(), simplify(5), events(), reset()]
        applied, word, found, simplified, word2, found2, refused, word3, undone = after(BRAID, *calls)
        self.assertEqual((word2, word3, found2), (word, word, found))
        self.assertEqual((applied, simplified, refused, undone), ([4, 4], [0, 2, 3], [-2], [6]))
        word, refused, word2, found = after(MANY_WORDS, events(), simplify(4), events(), moves())
        self.assertEqual((word2, refused, found[0]), (word, [-8], 35))

    def test_of_the_current_word(self):
        self.assertEqual(
            after(BRAID, apply_move(0), simplify(1), apply_move(0), simplify(1), reset(), simplify(1)),
            [[4, 4], [2, 1, 2], [2, 2], [0, 1, 2], [6], [4, 1, 2]],
        )

    def test_crossings_are_counted_not_events(self):
        self.check("tie t 2/cup 1/cap 2/over 1/end", [1, 0, 1], [1, 0, 2], [1, 0, 2])
        self.check("tie t 1/cup 1/cap 2/end", [0, 0, 1], [0, 0, 2], [0, 0, 2])

    def test_levels_by_their_definition(self):
        for top, word in samples(45, 9, 7):
            expected = [plain_answer(word, levels) for levels in range(4)]
            self.check(text_for(top, word), *expected)

    def test_requirement_7_as_few_crossings_as_so_many_moves_reach(self):
        for shown in (BRAID, "tie e 1/cup 2/over 1/cap 2/end", "tie u 0/cup 1/cup 3/over 2/cap 1/cap 1/end"):
            for levels in range(4):
                fewest = min(crossings for crossings in self.reached(shown, [], levels))
                self.assertEqual(after(shown, simplify(levels))[0][0], fewest, (shown, levels))

    def reached(self, shown, path, left):
        """The numbers of crossings after this path of moves, and after up to so many moves more."""
        answered = after(shown, *[apply_move(index) for index in path], events(), moves())
        found = [len([kind for kind in answered[-2][1::2] if kind < 2])]
        if left > 0:
            for index in range(answered[-1][0]):
                found += self.reached(shown, path + [index], left - 1)
        return found

    def test_after_an_error_nothing_is_changed(self):
        calls = [simplify(9), components(), count_colorings(3), moves()]
        self.assertEqual(after(TREFOIL, *calls), [[-2], [1, 0, 0], [9], [4, 0, 7, 1, 9, 4, 11, 5, 7]])
        self.assertEqual(ask(load("end"), simplify(1)), [[-111], [-7]])
