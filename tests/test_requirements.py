"""Requirements 5 and 6, and the calls beside a second, plainer way to find each answer."""

import itertools
import unittest

from helper import (
    CAP, CUP, GROWTH, OVER, UNDER, after, ask, colorings_with, components, count_colorings, events, linking, lines_for,
    load, parts_of, samples, text_for,
)


def row_below(top, word, colors, choices, p):
    """The colors at the bottom, or None where a cap does not fit."""
    row = list(colors)
    left_over = list(choices)
    for kind, strand in word:
        i = strand - 1
        if kind == CUP:
            row[i:i] = [left_over[0]] * 2
            left_over = left_over[1:]
        elif kind == CAP:
            if row[i] != row[i + 1]:
                return None
            row[i:i + 2] = []
        elif kind == OVER:
            row[i:i + 2] = [(2 * row[i] - row[i + 1]) % p, row[i]]
        else:
            row[i:i + 2] = [row[i + 1], (2 * row[i + 1] - row[i]) % p]
    return row


def rows_below(top, word, colors, p):
    cups = len([kind for kind, strand in word if kind == CUP])
    for choices in itertools.product(range(p), repeat=cups):
        row = row_below(top, word, colors, choices, p)
        if row is not None:
            yield row


def pieces(top, word):
    """Each component as the list of its ends or [], and of the visits it makes to crossings.

    Walks along the string: a point is (height, place), and a bend or an end stops the way there.
    """
    rows = [top]
    for kind, strand in word:
        rows.append(rows[-1] + GROWTH[kind])
    beginnings = [(0, place, 1) for place in range(top)]
    beginnings += [(len(word), place, -1) for place in range(rows[-1])]
    # Behind the ends, so that what is still left at a cup is closed.
    beginnings += [(height + 1, strand - 1, 1) for height, (kind, strand) in enumerate(word) if kind == CUP]
    seen = set()
    found = []
    for beginning in beginnings:
        if (beginning[0], beginning[1]) not in seen:
            found.append(walk(word, beginning, seen, rows))
    return found


def walk(word, beginning, seen, rows):
    height, place, way = beginning
    ends = []
    visits = {}
    if way == 1 and height == 0:
        ends.append(place)
    if way == -1:
        ends.append(100 + place)
    while (height, place, way) not in seen:
        seen.add((height, place, way))
        seen.add((height, place))
        if (height == 0 and way == -1) or (height == len(word) and way == 1):
            ends.append(place if way == -1 else 100 + place)
            break
        index = height if way == 1 else height - 1
        kind, strand = word[index]
        i = strand - 1
        bend = CAP if way == 1 else CUP
        if kind == bend and place in (i, i + 1):
            place, way = 2 * i + 1 - place, -way
            continue
        if kind in (OVER, UNDER) and place in (i, i + 1):
            visits.setdefault(index, []).append(way)
            place = 2 * i + 1 - place
        elif kind in (CUP, CAP) and place >= i:
            place += 2 if (kind == CUP) == (way == 1) else -2
        height += way
    return sorted(ends), visits


class PlainerWays(unittest.TestCase):
    def test_events(self):
        for top, word in samples(60, 30, 12):
            flat = [number for event in word for number in event]
            self.assertEqual(after(text_for(top, word), events())[0], [len(word)] + flat)

    def test_what_load_answers(self):
        for top, word in samples(60, 30, 12):
            bottom = top + sum(GROWTH[kind] for kind, strand in word)
            crossings = len([kind for kind, strand in word if kind in (OVER, UNDER)])
            self.assertEqual(ask(load(text_for(top, word))), [[top, bottom, len(word), crossings]])

    def test_ends_that_belong_together(self):
        for top, word in samples(150, 25, 9):
            answer = after(text_for(top, word), components())[0]
            mine = parts_of(answer)
            self.assertEqual(sorted(ends for number, ends in mine), sorted(ends for ends, visits in pieces(top, word)))
            self.assertEqual(sorted(number for number, ends in mine), [number for number, ends in mine])
            for number, ends in mine:
                if ends and ends[0] < top:
                    self.assertEqual(number, ends[0])

    def test_linkings(self):
        for top, word in samples(150, 25, 8):
            numbers = [number for number, ends in parts_of(after(text_for(top, word), components())[0])]
            mine = []
            for pair in itertools.combinations(numbers, 2):
                one, other = after(text_for(top, word), linking(*pair), linking(*reversed(pair)))
                self.assertEqual(one, other)
                mine.extend(one)
            plainer = []
            for (ends1, visits1), (ends2, visits2) in itertools.combinations(pieces(top, word), 2):
                total = 0
                for index in visits1:
                    if index in visits2:
                        same = visits1[index][0] == visits2[index][0]
                        total += 1 if same == (word[index][0] == OVER) else -1
                plainer.append(abs(total))
            self.assertEqual(sorted(mine), sorted(plainer), text_for(top, word))

    def test_count_colorings(self):
        for top, word in samples(80, 12, 5):
            cups = len([kind for kind, strand in word if kind == CUP])
            for p in (2, 3, 4):
                if p ** (top + cups) <= 300:
                    plainer = 0
                    for colors in itertools.product(range(p), repeat=top):
                        plainer += len(list(rows_below(top, word, colors, p)))
                    self.assertEqual(after(text_for(top, word), count_colorings(p)), [[plainer]])

    def test_colorings_with(self):
        for top, word in samples(80, 16, 6):
            cups = len([kind for kind, strand in word if kind == CUP])
            for p in (2, 3, 5, 9):
                colors = [(3 + 5 * place) % p for place in range(top)]
                if p ** cups <= 300:
                    rows = list(rows_below(top, word, colors, p))
                    expected = [len(rows)] + (rows[0] if rows else [])
                    self.assertEqual(after(text_for(top, word), colorings_with(p, colors)), [expected])


class Requirements(unittest.TestCase):
    def test_5_reflecting_keeps_the_number_of_colorings(self):
        for top, word in samples(80, 20, 5):
            first = f"tie a {top}{lines_for(word)}/end/"
            calls = [count_colorings(p) for p in range(2, 10)]
            expected = after(first, *calls)
            self.assertEqual(after(first + f"tie b {top}/use a 1 mirror/end", *calls), expected)

    def test_6_all_strands_of_one_color(self):
        for top, word in samples(80, 20, 6):
            cups = len([kind for kind, strand in word if kind == CUP])
            bottom = top + sum(GROWTH[kind] for kind, strand in word)
            for p in range(2, 10):
                if p ** cups <= 3000:
                    lowest = after(text_for(top, word), colorings_with(p, [0] * top))[0]
                    self.assertEqual(lowest[1:], [0] * bottom)
                    for color in range(p):
                        counted = after(text_for(top, word), colorings_with(p, [color] * top))[0]
                        self.assertGreaterEqual(counted[0], 1)
                        self.assertEqual(len(counted), 1 + bottom)
