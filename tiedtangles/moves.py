"""Moves: consecutive events of a word are replaced, and the strings stay knotted as they are.

The kinds of moves are the numbers of the table under "Moves" in DOC.md.
"""

from tiedtangles.words import CAP, CUP, GROWTH, MIRRORED_KIND, OVER, UNDER

# For each kind of event: how many strands it needs, and how many it leaves.
NEEDED = (2, 2, 0, 2)
LEFT = (2, 2, 2, 0)


class Move:
    """So many events of a word, from the index `start` on, and what replaces them."""

    def __init__(self, start, kind, length, replacement):
        self.start = start
        self.kind = kind
        self.length = length
        self.replacement = replacement


def after_move(word, move):
    """The word that the move makes of the word."""
    return word[:move.start] + move.replacement + word[move.start + move.length:]


def moves_of(word):
    """All moves of a word, in order."""
    found = [move_at(word, start) for start in range(len(word) - 1)]
    return [move for move in found if move is not None]


def move_at(word, start):
    """The move whose first event has this index, or None: no events fit two kinds of moves."""
    first = word[start]
    second = word[start + 1]
    exchanged = exchanged_events(first, second)
    if exchanged is not None:
        return Move(start, 7, 2, exchanged)
    # What can't be exchanged shares a strand, so the two are at most one strand apart.
    if is_crossing(first) and is_crossing(second):
        return move_of_crossings(start, word[start:start + 3])
    if first[0] == CUP and is_crossing(second):
        return move_below_cup(start, first, second)
    if is_crossing(first) and second[0] == CAP:
        return move_above_cap(start, first, second)
    if first[0] == CUP and second[0] == CAP and first[1] != second[1]:
        return Move(start, 4, 2, [])
    return None


def is_crossing(event):
    return event[0] in (OVER, UNDER)


def other_crossing(crossing, strand):
    """The other kind of crossing than the given one, at the given strand."""
    return (MIRRORED_KIND[crossing[0]], strand)


def exchanged_events(first, second):
    """Two events at disjoint strands in the other order, or None where they are not disjoint."""
    if second[1] + NEEDED[second[0]] <= first[1]:
        return [second, (first[0], first[1] + GROWTH[second[0]])]
    if first[1] + LEFT[first[0]] <= second[1]:
        return [(second[0], second[1] - GROWTH[first[0]]), first]
    return None


def move_of_crossings(start, events):
    """The move of two crossings at most one strand apart, and of the event behind, if any."""
    first = events[0]
    second = events[1]
    if first[1] == second[1]:
        if first[0] == second[0]:
            return None
        return Move(start, 1, 2, [])
    if len(events) < 3 or not is_crossing(events[2]) or events[2][1] != first[1]:
        return None
    third = events[2]
    if first[0] == third[0] and first[0] != second[0]:
        return None
    kind = 5 if first[1] < second[1] else 6
    replacement = [(third[0], second[1]), (second[0], first[1]), (first[0], second[1])]
    return Move(start, kind, 3, replacement)


def move_below_cup(start, cup, crossing):
    if crossing[1] == cup[1]:
        return Move(start, 2, 2, [cup])
    kind = 8 if cup[1] < crossing[1] else 9
    return Move(start, kind, 2, [(CUP, crossing[1]), other_crossing(crossing, cup[1])])


def move_above_cap(start, crossing, cap):
    if crossing[1] == cap[1]:
        return Move(start, 3, 2, [cap])
    kind = 10 if crossing[1] < cap[1] else 11
    return Move(start, kind, 2, [other_crossing(crossing, cap[1]), (CAP, crossing[1])])
