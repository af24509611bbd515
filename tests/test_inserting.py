"""The lines `use`, with `mirror` and `turned`, and `repeat`: what events they add."""

import unittest

from helper import lines_for, random_word, word_of

OVER, UNDER, CUP, CAP = range(4)

INNER = "tie a 3/over 1/cup 2/under 4/cup 1/over 2/cap 3/end/"


class Use(unittest.TestCase):
    def check(self, shown, *expected):
        self.assertEqual(word_of(shown), list(expected), shown)

    def test_plain(self):
        self.check(
            INNER + "tie t 5/use a 1/end",
            (OVER, 1), (CUP, 2), (UNDER, 4), (CUP, 1), (OVER, 2), (CAP, 3),
        )
        self.check(
            INNER + "tie t 5/use a 3/end",
            (OVER, 3), (CUP, 4), (UNDER, 6), (CUP, 3), (OVER, 4), (CAP, 5),
        )

    def test_between_other_events(self):
        self.check("tie a 2/cap 1/end/tie t 4/over 2/use a 3/under 1/end", (OVER, 2), (CAP, 3), (UNDER, 1))

    def test_number_of_strands_after_a_use(self):
        self.check("tie a 2/cap 1/end/tie t 6/use a 1/use a 1/use a 1/cup 1/end", (CAP, 1), (CAP, 1), (CAP, 1), (CUP, 1))
        self.check("tie a 1/cup 2/end/tie t 1/use a 1/use a 3/over 4/end", (CUP, 2), (CUP, 4), (OVER, 4))

    def test_of_a_tangle_that_uses_others(self):
        self.check(
            "tie a 2/over 1/end/tie b 3/use a 1/use a 2/end/tie t 4/use b 2/use a 1/end",
            (OVER, 2), (OVER, 3), (OVER, 1),
        )

    def test_mirror_single_events(self):
        # Of 5 strands, the crossing or cap of 2 and 3 comes to be one of 3 and 4.
        self.check("tie a 5/over 2/end/tie t 5/use a 1 mirror/end", (UNDER, 3))
        self.check("tie a 5/under 2/end/tie t 5/use a 1 mirror/end", (OVER, 3))
        self.check("tie a 5/cap 1/end/tie t 5/use a 1 mirror/end", (CAP, 4))
        self.check("tie a 5/cup 1/end/tie t 5/use a 1 mirror/end", (CUP, 6))
        self.check("tie a 5/cup 6/end/tie t 5/use a 1 mirror/end", (CUP, 1))
        self.check("tie a 0/cup 1/end/tie t 0/use a 1 mirror/end", (CUP, 1))

    def test_mirror_follows_the_number_of_strands(self):
        self.check(
            INNER + "tie t 3/use a 1 mirror/end",
            (UNDER, 2), (CUP, 3), (OVER, 1), (CUP, 6), (UNDER, 5), (CAP, 4),
        )

    def test_mirror_counts_the_inserted_tangle_alone(self):
        self.check(
            INNER + "tie t 7/use a 4 mirror/end",
            (UNDER, 5), (CUP, 6), (OVER, 4), (CUP, 9), (UNDER, 8), (CAP, 7),
        )

    def test_turned(self):
        self.check(
            INNER + "tie t 5/use a 1 turned/end",
            (CUP, 3), (UNDER, 2), (CAP, 1), (OVER, 4), (CAP, 2), (UNDER, 1),
        )
        self.check(
            INNER + "tie t 7/use a 3 turned/end",
            (CUP, 5), (UNDER, 4), (CAP, 3), (OVER, 6), (CAP, 4), (UNDER, 3),
        )

    def test_number_of_strands_after_turned(self):
        self.check("tie a 4/cap 1/end/tie t 2/use a 1 turned/use a 1/end", (CUP, 1), (CAP, 1))
        self.check("tie a 2/cup 1/end/tie t 4/use a 1 turned/over 1/end", (CAP, 1), (OVER, 1))

    def test_mirror_and_turned_in_turn(self):
        # The reflection of INNER turned, and INNER's reflection turned, are the same.
        one = word_of(INNER + "tie b 3/use a 1 mirror/end/tie t 5/use b 1 turned/end")
        other = word_of(INNER + "tie b 5/use a 1 turned/end/tie t 5/use b 1 mirror/end")
        self.assertEqual(one, [(CUP, 4), (OVER, 5), (CAP, 6), (UNDER, 1), (CAP, 3), (OVER, 2)])
        self.assertEqual(other, one)

    def test_twice_restores(self):
        for seed in range(60):
            top = seed % 5
            word = random_word(seed, top, 20, 8)
            strands = top + sum((0, 0, 2, -2)[kind] for kind, strand in word)
            first = f"tie a {top}{lines_for(word)}/end/"
            mirror_twice = f"tie b {top}/use a 1 mirror/end/tie c {top}/use b 1 mirror/end"
            self.assertEqual(word_of(first + mirror_twice), word)
            turned_twice = f"tie b {strands}/use a 1 turned/end/tie c {top}/use b 1 turned/end"
            self.assertEqual(word_of(first + turned_twice), word)

    def test_reflecting_leaves_the_first_tangle_as_it_is(self):
        self.check("tie a 2/over 1/end/tie t 2/use a 1 mirror/use a 1/use a 1 turned/use a 1/end",
                   (UNDER, 1), (OVER, 1), (UNDER, 1), (OVER, 1))


class Repeat(unittest.TestCase):
    def check(self, shown, *expected):
        self.assertEqual(word_of(shown), list(expected), shown)

    def test_times(self):
        self.check("tie t 3/over 2/repeat 3/over 1/under 2/again/over 2/end",
                   (OVER, 2), *[(OVER, 1), (UNDER, 2)] * 3, (OVER, 2))
        self.check("tie t 3/repeat 1/over 1/under 2/again/end", (OVER, 1), (UNDER, 2))
        self.check("tie t 3/repeat 12/over 1/again/end", *[(OVER, 1)] * 12)

    def test_nothing_between(self):
        self.check("tie t 3/repeat 12/again/over 1/end", (OVER, 1))

    def test_one_behind_another(self):
        self.check("tie t 3/repeat 2/over 1/again/repeat 3/under 2/again/end",
                   *[(OVER, 1)] * 2, *[(UNDER, 2)] * 3)

    def test_nested(self):
        self.check("tie t 3/repeat 2/over 1/repeat 3/under 2/again/over 2/again/end",
                   *[(OVER, 1), *[(UNDER, 2)] * 3, (OVER, 2)] * 2)
        self.check("tie t 3/repeat 2/repeat 2/repeat 2/repeat 2/over 1/again/under 2/again/again/again/end",
                   *[(OVER, 1), (OVER, 1), (UNDER, 2)] * 8)

    def test_with_cups_caps_and_uses(self):
        self.check("tie a 2/over 1/end/tie t 2/repeat 2/cup 3/use a 2 mirror/cap 3/again/end",
                   *[(CUP, 3), (UNDER, 2), (CAP, 3)] * 2)

    def test_in_a_tangle_that_is_used(self):
        self.check("tie a 2/repeat 2/over 1/again/end/tie t 3/repeat 2/use a 2/again/end", *[(OVER, 2)] * 4)
