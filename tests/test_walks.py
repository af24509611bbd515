"""Requirements 1 to 4, 7 and 8 along walks of several moves from word to word."""

import itertools
import random
import unittest

from helper import (
    FIGURE_EIGHT, GROWTH, HOPF_LINK, TREFOIL, UNKNOT, after, apply_move, colorings_with, compare, components,
    count_colorings, events, linking, load, ask, moves, pairs_of, parts_of, plain_moves, samples, simplify,
    text_for, word_of,
)

TEXTS = (
    TREFOIL, FIGURE_EIGHT, HOPF_LINK, UNKNOT,
    "tie e 1/cup 2/over 1/cap 2/end",
    "tie t 3/over 1/under 2/under 1/over 2/cup 1/under 2/cap 1/end",
    "tie t 2/cup 2/over 1/over 3/under 2/cap 1/over 1/under 1/end",
    "tie t 4/over 1/over 2/over 3/over 1/over 2/over 1/cap 2/cup 1/end",
    "tie t 1/cup 1/cup 4/over 2/under 3/cap 1/cap 2/cup 1/under 1/end",
    "tie t 0/cup 1/cup 2/over 1/under 3/over 2/cap 1/cup 3/over 2/cap 1/cap 1/end",
)


def texts():
    """Texts with few strands, as Requirement 1 is asked for small numbers of colorings alone."""
    yield from TEXTS
    for top, word in samples(40, 14, 5):
        yield text_for(top, word)


def walk(shown, seed, steps):
    """The indexes of so many moves, one behind another, or fewer where a word has none."""
    source = random.Random(seed)
    word = word_of(shown)
    path = []
    while len(path) < steps:
        found = plain_moves(word)
        if not found:
            break
        path.append(source.randrange(len(found)))
        word = found[path[-1]][2]
    return path


def walks(steps=9):
    """Texts, each with the calls that lead to the words along a walk from it, the first one first."""
    for seed, shown in enumerate(texts()):
        calls = [apply_move(index) for index in walk(shown, seed, steps)]
        yield shown, [calls[:length] for length in range(len(calls) + 1)]


def top_of(shown):
    return ask(load(shown))[0][0]


def last(shown, calls, call):
    return after(shown, *calls, call)[-1]


def linkings(shown, calls):
    numbers = [number for number, ends in parts_of(last(shown, calls, components()))]
    pairs = itertools.combinations(numbers, 2)
    return sorted(last(shown, calls, linking(*pair))[0] for pair in pairs)


def text_of_current(shown, calls):
    return text_for(top_of(shown), pairs_of(last(shown, calls, events())))


class Walks(unittest.TestCase):
    def test_each_kind_of_move_is_walked(self):
        walked = set()
        for shown, steps in walks():
            for before, behind in zip(steps, steps[1:]):
                index = behind[-1][2]
                walked.add(pairs_of(last(shown, before, moves()))[index][1])
        self.assertEqual(walked, set(range(1, 12)))

    def test_the_words_along_the_way(self):
        for shown, steps in walks():
            for before, behind in zip(steps, steps[1:]):
                word = pairs_of(last(shown, before, events()))
                index, kind, then = plain_moves(word)[behind[-1][2]]
                self.assertEqual(pairs_of(last(shown, behind, events())), then)

    def test_strands_exist_along_the_way(self):
        for shown, steps in walks():
            for calls in steps:
                strands = top_of(shown)
                for kind, strand in pairs_of(last(shown, calls, events())):
                    self.assertLessEqual(1, strand)
                    self.assertLessEqual(strand, strands + 1 if kind == 2 else strands - 1)
                    strands += GROWTH[kind]


class Requirements(unittest.TestCase):
    def keeps(self, ask_for):
        """Whether what is asked for stays the same along all walks."""
        for shown, steps in walks():
            expected = ask_for(shown, [])
            for calls in steps[1:]:
                self.assertEqual(ask_for(shown, calls), expected, (shown, calls))

    def counted(self, shown, calls, call):
        """How many colorings there are, None if there are too many to count."""
        answer = last(shown, calls, call)
        return None if answer == [-8] else answer[0]

    def keeps_count(self, shown, steps, call):
        counts = [self.counted(shown, calls, call) for calls in steps]
        known = [count for count in counts if count is not None]
        self.assertEqual(known, known[:1] * len(known), (shown, steps[-1], call))
        # Moves only ever take cups away, so what can be counted once can be counted later.
        self.assertEqual(counts[len(counts) - len(known):], known)

    def test_1_the_number_of_colorings(self):
        for shown, steps in walks():
            for p in (2, 3, 4, 5, 7, 9):
                self.keeps_count(shown, steps, count_colorings(p))

    def test_1_for_given_colors_at_the_top(self):
        for shown, steps in walks():
            for p, factor in itertools.product((2, 3, 5, 8), (0, 1, 3)):
                colors = [(1 + factor * place) % p for place in range(top_of(shown))]
                self.keeps_count(shown, steps, colorings_with(p, colors))

    def test_2_ends_closed_components_and_strands_at_the_bottom(self):
        def ends(shown, calls):
            return sorted(ends for number, ends in parts_of(last(shown, calls, components())))

        self.keeps(ends)

    def test_3_the_list_of_linkings(self):
        self.keeps(linkings)

    def test_4_never_more_events_or_crossings(self):
        for shown, steps in walks():
            word = word_of(shown)
            counts = [[len(word), len([kind for kind, strand in word if kind < 2])]] + after(shown, *steps[-1])
            for before, behind in zip(counts, counts[1:]):
                self.assertLessEqual(behind[0], before[0], (shown, counts))
                self.assertLessEqual(behind[1], before[1], (shown, counts))

    def test_7_no_walk_leads_to_fewer_crossings_than_simplify_tells(self):
        for shown, steps in walks(steps=4):
            for levels, calls in enumerate(steps):
                simplified = after(shown, simplify(levels))[0]
                if simplified != [-8]:
                    kinds = last(shown, calls, events())[1::2]
                    self.assertLessEqual(simplified[0], len([kind for kind in kinds if kind < 2]))

    def test_8_nothing_differs_from_the_tangle_itself(self):
        self.keeps(lambda shown, calls: last(shown, calls, compare(shown)))
        for shown in TEXTS:
            self.assertEqual(after(shown, compare(shown)), [[0]])

    def test_8_nothing_differs_from_a_word_obtained_by_moves(self):
        for shown, steps in walks():
            for calls in steps:
                reached = text_of_current(shown, calls)
                if ask(load(reached))[0][0] >= 0:
                    self.assertEqual(after(shown, compare(reached)), [[0]], (shown, reached))
                    self.assertEqual(after(reached, compare(shown)), [[0]], (shown, reached))

    def test_a_word_reached_by_moves_answers_like_the_same_word_loaded(self):
        asked = [
            events(), components(), count_colorings(3), count_colorings(4), moves(), simplify(2), compare(TREFOIL),
            linking(0, 1), linking(1, 2), linking(0, 3), apply_move(0), events(),
        ]
        for shown, steps in walks():
            reached = text_of_current(shown, steps[-1])
            if ask(load(reached))[0][0] >= 0:
                self.assertEqual(after(shown, *steps[-1], *asked)[len(steps[-1]):], after(reached, *asked))
