import itertools
import unittest

from helper import (
    CAP, CUP, GROWTH, OVER, TREFOIL, UNDER, after, apply_move, ask, count_colorings, events, load, moves, pairs_of,
    plain_moves, reset, samples, text_for, word_of,
)

CROSSINGS = (OVER, UNDER)


class MoveCase(unittest.TestCase):
    def check(self, top, word, listed):
        """Each move as its index, its kind, and the word after it."""
        shown = text_for(top, word)
        self.assertEqual(pairs_of(after(shown, moves())[0]), [(index, kind) for index, kind, then in listed], shown)
        for number, (index, kind, then) in enumerate(listed):
            applied, listed_then = after(shown, apply_move(number), events())
            self.assertEqual(pairs_of(listed_then), then, shown)
            crossings = [kind for kind, strand in then if kind in CROSSINGS]
            self.assertEqual(applied, [len(then), len(crossings)], shown)

    def only(self, top, word, kind, then):
        self.check(top, word, [(0, kind, then)])

    def none(self, top, word):
        self.check(top, word, [])


class EachKind(MoveCase):
    def test_1_two_opposite_crossings(self):
        for x in CROSSINGS:
            self.only(3, [(x, 2), (1 - x, 2)], 1, [])
            self.none(3, [(x, 2), (x, 2)])
            self.none(3, [(x, 2), (1 - x, 1)])
            self.none(3, [(x, 1), (1 - x, 2)])
            self.none(2, [(x, 1)])

    def test_1_not_with_an_event_between(self):
        self.check(4, [(OVER, 1), (OVER, 3), (UNDER, 1)], [
            (0, 7, [(OVER, 3), (OVER, 1), (UNDER, 1)]), (1, 7, [(OVER, 1), (UNDER, 1), (OVER, 3)]),
        ])

    def test_2_a_crossing_right_below_a_cup(self):
        for x in CROSSINGS:
            self.only(0, [(CUP, 1), (x, 1)], 2, [(CUP, 1)])
            self.only(3, [(CUP, 3), (x, 3)], 2, [(CUP, 3)])

    def test_3_a_crossing_right_above_a_cap(self):
        for x in CROSSINGS:
            self.only(2, [(x, 1), (CAP, 1)], 3, [(CAP, 1)])
            self.only(5, [(x, 3), (CAP, 3)], 3, [(CAP, 3)])

    def test_4_a_bend_back_and_forth(self):
        self.only(1, [(CUP, 1), (CAP, 2)], 4, [])
        self.only(1, [(CUP, 2), (CAP, 1)], 4, [])
        self.only(4, [(CUP, 3), (CAP, 4)], 4, [])
        self.only(4, [(CUP, 3), (CAP, 2)], 4, [])
        self.none(0, [(CUP, 1), (CAP, 1)])
        self.none(4, [(CUP, 3), (CAP, 3)])

    def test_4_not_two_strands_off(self):
        self.only(4, [(CUP, 3), (CAP, 1)], 7, [(CAP, 1), (CUP, 1)])
        self.only(4, [(CUP, 1), (CAP, 3)], 7, [(CAP, 1), (CUP, 1)])

    def test_5_and_6_three_crossings(self):
        for x, y, z in itertools.product(CROSSINGS, repeat=3):
            rising = [(x, 2), (y, 3), (z, 2)]
            falling = [(x, 3), (y, 2), (z, 3)]
            if x == z and y != x:
                self.none(4, rising)
                self.none(4, falling)
            else:
                self.only(4, rising, 5, [(z, 3), (y, 2), (x, 3)])
                self.only(4, falling, 6, [(z, 2), (y, 3), (x, 2)])

    def test_5_and_6_near_misses(self):
        self.none(4, [(OVER, 1), (OVER, 2), (OVER, 3)])
        self.none(4, [(OVER, 3), (OVER, 2), (OVER, 1)])
        self.none(3, [(OVER, 1), (OVER, 2), (OVER, 2)])
        self.none(3, [(OVER, 1), (OVER, 2)])
        self.none(3, [(OVER, 2), (OVER, 1)])
        self.check(3, [(OVER, 1), (OVER, 2), (CAP, 1)], [(1, 11, [(OVER, 1), (UNDER, 1), (CAP, 2)])])
        self.check(5, [(OVER, 1), (OVER, 2), (OVER, 4)], [(1, 7, [(OVER, 1), (OVER, 4), (OVER, 2)])])

    def test_5_and_6_keep_each_kind_of_crossing(self):
        self.only(3, [(OVER, 1), (UNDER, 2), (UNDER, 1)], 5, [(UNDER, 2), (UNDER, 1), (OVER, 2)])
        self.only(3, [(OVER, 2), (OVER, 1), (UNDER, 2)], 6, [(UNDER, 1), (OVER, 2), (OVER, 1)])

    def test_8_and_9_a_strand_past_a_cup(self):
        for x in CROSSINGS:
            self.only(1, [(CUP, 1), (x, 2)], 8, [(CUP, 2), (1 - x, 1)])
            self.only(1, [(CUP, 2), (x, 1)], 9, [(CUP, 1), (1 - x, 2)])
            self.only(5, [(CUP, 4), (x, 5)], 8, [(CUP, 5), (1 - x, 4)])
            self.only(5, [(CUP, 5), (x, 4)], 9, [(CUP, 4), (1 - x, 5)])

    def test_8_and_9_not_two_strands_off(self):
        self.only(2, [(CUP, 1), (OVER, 3)], 7, [(OVER, 1), (CUP, 1)])
        self.only(2, [(CUP, 3), (OVER, 1)], 7, [(OVER, 1), (CUP, 3)])

    def test_10_and_11_a_strand_past_a_cap(self):
        for x in CROSSINGS:
            self.only(3, [(x, 1), (CAP, 2)], 10, [(1 - x, 2), (CAP, 1)])
            self.only(3, [(x, 2), (CAP, 1)], 11, [(1 - x, 1), (CAP, 2)])
            self.only(6, [(x, 4), (CAP, 5)], 10, [(1 - x, 5), (CAP, 4)])
            self.only(6, [(x, 5), (CAP, 4)], 11, [(1 - x, 4), (CAP, 5)])

    def test_10_and_11_not_two_strands_off(self):
        self.only(4, [(OVER, 1), (CAP, 3)], 7, [(CAP, 3), (OVER, 1)])
        self.only(4, [(OVER, 3), (CAP, 1)], 7, [(CAP, 1), (OVER, 1)])

    def test_kinds_that_fit_nothing_else(self):
        self.none(3, [(OVER, 1), (CUP, 2)])
        self.none(4, [(CAP, 2), (OVER, 1)])
        self.none(4, [(CAP, 2), (CAP, 1)])
        self.none(2, [(CUP, 1), (CUP, 2)])


class Exchanges(MoveCase):
    def test_two_crossings(self):
        for x, y in itertools.product(CROSSINGS, repeat=2):
            self.only(4, [(x, 1), (y, 3)], 7, [(y, 3), (x, 1)])
            self.only(4, [(x, 3), (y, 1)], 7, [(y, 1), (x, 3)])

    def test_a_crossing_and_a_cup(self):
        self.only(3, [(OVER, 2), (CUP, 2)], 7, [(CUP, 2), (OVER, 4)])
        self.only(3, [(OVER, 2), (CUP, 1)], 7, [(CUP, 1), (OVER, 4)])
        self.only(3, [(OVER, 2), (CUP, 4)], 7, [(CUP, 4), (OVER, 2)])
        self.none(3, [(OVER, 2), (CUP, 3)])

    def test_a_crossing_and_a_cap(self):
        self.only(5, [(OVER, 3), (CAP, 1)], 7, [(CAP, 1), (OVER, 1)])
        self.only(5, [(OVER, 2), (CAP, 4)], 7, [(CAP, 4), (OVER, 2)])

    def test_a_cup_and_a_crossing(self):
        self.only(3, [(CUP, 3), (OVER, 1)], 7, [(OVER, 1), (CUP, 3)])
        self.only(3, [(CUP, 1), (OVER, 3)], 7, [(OVER, 1), (CUP, 1)])

    def test_two_cups(self):
        self.only(2, [(CUP, 2), (CUP, 1)], 7, [(CUP, 1), (CUP, 4)])
        self.only(2, [(CUP, 2), (CUP, 2)], 7, [(CUP, 2), (CUP, 4)])
        self.only(2, [(CUP, 1), (CUP, 3)], 7, [(CUP, 1), (CUP, 1)])
        self.only(2, [(CUP, 1), (CUP, 5)], 7, [(CUP, 3), (CUP, 1)])
        self.none(2, [(CUP, 2), (CUP, 3)])

    def test_a_cup_and_a_cap(self):
        self.only(3, [(CUP, 4), (CAP, 2)], 7, [(CAP, 2), (CUP, 2)])
        self.only(3, [(CUP, 1), (CAP, 3)], 7, [(CAP, 1), (CUP, 1)])
        self.only(3, [(CUP, 1), (CAP, 4)], 7, [(CAP, 2), (CUP, 1)])

    def test_a_cap_and_a_crossing(self):
        self.only(5, [(CAP, 4), (OVER, 2)], 7, [(OVER, 2), (CAP, 4)])
        self.only(5, [(CAP, 2), (OVER, 2)], 7, [(OVER, 4), (CAP, 2)])
        self.none(5, [(CAP, 3), (OVER, 2)])

    def test_two_caps(self):
        self.only(6, [(CAP, 4), (CAP, 2)], 7, [(CAP, 2), (CAP, 2)])
        self.only(6, [(CAP, 2), (CAP, 2)], 7, [(CAP, 4), (CAP, 2)])
        self.only(6, [(CAP, 2), (CAP, 3)], 7, [(CAP, 5), (CAP, 2)])
        self.none(6, [(CAP, 3), (CAP, 2)])

    def test_a_cap_and_a_cup(self):
        self.only(5, [(CAP, 3), (CUP, 1)], 7, [(CUP, 1), (CAP, 5)])
        self.only(5, [(CAP, 3), (CUP, 4)], 7, [(CUP, 6), (CAP, 3)])

    def test_the_first_of_both_ways(self):
        # A cup right where a cap ended fits both rules, and the first of them holds.
        self.only(5, [(CAP, 3), (CUP, 3)], 7, [(CUP, 3), (CAP, 5)])
        self.only(2, [(CAP, 1), (CUP, 1)], 7, [(CUP, 1), (CAP, 3)])

    def test_more_strands_than_a_text_may_have(self):
        # The limit on the strands side by side stands in the table of errors in texts alone.
        self.only(12, [(CAP, 1), (CUP, 11)], 7, [(CUP, 13), (CAP, 1)])
        shown = text_for(12, [(CAP, 11), (CUP, 11)])
        self.assertEqual(after(shown, apply_move(0), moves(), apply_move(0), events(), count_colorings(2)), [
            [2, 0], [1, 0, 7], [2, 0], [2, 3, 11, 2, 11], [-8],
        ])


class Order(MoveCase):
    def test_every_index_has_its_moves_in_order(self):
        self.check(3, [(UNDER, 2), (OVER, 2), (UNDER, 2)], [(0, 1, [(UNDER, 2)]), (1, 1, [(UNDER, 2)])])
        self.check(0, [(CUP, 1), (OVER, 1), (CAP, 1)], [(0, 2, [(CUP, 1), (CAP, 1)]), (1, 3, [(CUP, 1), (CAP, 1)])])

    def test_the_index_counts_events(self):
        self.check(4, [(OVER, 2), (OVER, 1), (OVER, 2), (UNDER, 2), (OVER, 3)], [
            (0, 6, [(OVER, 1), (OVER, 2), (OVER, 1), (UNDER, 2), (OVER, 3)]),
            (2, 1, [(OVER, 2), (OVER, 1), (OVER, 3)]),
        ])

    def test_no_two_moves_have_the_same_first_event(self):
        # So the order by kind never decides: the rows of the table leave each other no events.
        near = [(kind, strand) for kind in range(4) for strand in (3, 4, 5, 6)]
        asked = 0
        for kind, second, third in itertools.product(range(4), near, near):
            shown = text_for(8, [(kind, 4), second, third])
            loaded, found = ask(load(shown), moves())
            if loaded[0] >= 0:
                asked += 1
                indexes = [index for index, kind in pairs_of(found)]
                self.assertEqual(indexes, sorted(set(indexes)), shown)
                listed = plain_moves([(kind, 4), second, third])
                self.assertEqual([(index, kind) for index, kind, then in listed], pairs_of(found))
        self.assertGreater(asked, 800)

    def test_fewer_than_two_events(self):
        self.none(0, [])
        self.none(2, [])
        for event in ((OVER, 1), (UNDER, 1), (CUP, 1), (CAP, 1)):
            self.none(2, [event])

    def test_events_of_inserted_tangles(self):
        shown = "tie a 2/over 1/end/tie b 2/use a 1/use a 1 turned/end"
        self.assertEqual(after(shown, moves(), apply_move(0), events()), [[1, 0, 1], [0, 0], [0]])

    def test_trefoil(self):
        self.assertEqual(after(TREFOIL, moves(), apply_move(1), moves(), events()), [
            [4, 0, 7, 1, 9, 4, 11, 5, 7], [7, 3], [3, 1, 8, 4, 11, 5, 7],
            [7, 2, 1, 2, 2, 1, 3, 0, 2, 0, 2, 3, 1, 3, 1],
        ])

    def test_short_words(self):
        # All words of three events would take long, so every seventh of them.
        for top in range(5):
            for word in self.words(top, 2) + self.words(top, 3)[::7]:
                self.check(top, word, plain_moves(word))

    def words(self, strands, length):
        """All words of so many events, from so many strands on."""
        if length == 0:
            return [[]]
        found = []
        for kind in range(4):
            last = strands + 1 if kind == CUP else strands - 1
            for strand in range(1, last + 1):
                found += [[(kind, strand)] + rest for rest in self.words(strands + GROWTH[kind], length - 1)]
        return found

    def test_random_words(self):
        for top, word in samples(60, 40, 12):
            self.check(top, word, plain_moves(word))


class ApplyMove(unittest.TestCase):
    WORD = "tie e 1/cup 2/over 1/cap 2/end"

    def test_no_text(self):
        self.assertEqual(ask(moves(), apply_move(0), apply_move(-1), apply_move(9)), [[-7]] * 4)
        self.assertEqual(ask(load("tie t"), moves(), apply_move(0)), [[-111], [-7], [-7]])

    def test_index_of_no_move(self):
        for index in (2, 3, -1, -2, 2 ** 53, -2 ** 53):
            self.assertEqual(after(self.WORD, apply_move(index), events()), [[-3], [3, 2, 2, 0, 1, 3, 2]])
        for index in (0, 1, -1):
            self.assertEqual(after("tie t 2/end", apply_move(index)), [[-3]])
            self.assertEqual(after("tie t 2/over 1/over 1/end", apply_move(index)), [[-3]])

    def test_first_and_last_index(self):
        self.assertEqual(after(self.WORD, apply_move(0), events()), [[3, 1], [3, 2, 1, 1, 2, 3, 2]])
        self.assertEqual(after(self.WORD, apply_move(1), events()), [[3, 1], [3, 2, 2, 1, 2, 3, 1]])

    def test_a_failed_one_changes_nothing(self):
        calls = [apply_move(0), apply_move(2), apply_move(-1), events(), moves()]
        self.assertEqual(after(self.WORD, *calls), [
            [3, 1], [-3], [-3], [3, 2, 1, 1, 2, 3, 2], [2, 0, 8, 1, 3],
        ])

    def test_one_behind_another(self):
        calls = [apply_move(0), apply_move(1), moves(), apply_move(0), events(), moves(), reset(), moves()]
        self.assertEqual(after(self.WORD, *calls), [
            [3, 1], [2, 0], [1, 0, 4], [0, 0], [0], [0], [3], [2, 0, 9, 1, 10],
        ])

    def test_moves_changes_nothing(self):
        self.assertEqual(after(self.WORD, moves(), moves(), events()), [
            [2, 0, 9, 1, 10], [2, 0, 9, 1, 10], [3, 2, 2, 0, 1, 3, 2],
        ])
        self.assertEqual(word_of(self.WORD), [(CUP, 2), (OVER, 1), (CAP, 2)])
