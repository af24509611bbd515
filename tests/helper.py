"""What the tests share: calls as lists of numbers, and answers taken apart again."""

import itertools
import random

from tiedtangles.tangles import answers

KINDS = ("over", "under", "cup", "cap")
OVER, UNDER, CUP, CAP = range(4)
GROWTH = (0, 0, 2, -2)

# Well-known knots and links, each closed.
UNKNOT = "tie u 0/cup 1/cap 1/end"
TREFOIL = "tie t 0/cup 1/cup 3/over 2/over 2/over 2/cap 1/cap 1/end"
FIGURE_EIGHT = "tie f 0/cup 1/cup 2/cup 3/over 1/under 2/over 1/under 2/cap 3/cap 2/cap 1/end"
HOPF_LINK = "tie h 0/cup 1/cup 3/over 2/over 2/cap 1/cap 1/end"


def bytes_of(shown):
    """A text as it is shown in DOC.md, with / for a newline."""
    return [10 if sign == "/" else ord(sign) for sign in shown]


def call(number, values):
    return [number, len(values)] + values + [0]


def load_bytes(text):
    return call(1, text)


def load(shown):
    return load_bytes(bytes_of(shown))


def events():
    return call(2, [])


def components():
    return call(3, [])


def linking(component1, component2):
    return call(4, [component1, component2])


def count_colorings(p):
    return call(5, [p])


def colorings_with(p, colors):
    return call(6, [p] + colors)


def moves():
    return call(7, [])


def apply_move(index):
    return call(8, [index])


def simplify(levels):
    return call(9, [levels])


def reset():
    return call(10, [])


def compare_bytes(text):
    return call(11, text)


def compare(shown):
    return compare_bytes(bytes_of(shown))


def joined(calls):
    return [number for call in calls for number in call]


def parted(answered):
    """Each answer as a list of its own."""
    parts = []
    start = 0
    while start < len(answered):
        behind = start + 1 + answered[start]
        assert answered[start] >= 1 and behind <= len(answered), answered
        parts.append(answered[start + 1:behind])
        start = behind
    return parts


def ask(*calls):
    return parted(answers(joined(calls)))


def after(shown, *calls):
    """The answers to the calls when the text, which has no error, is loaded ahead of them."""
    parts = ask(load(shown), *calls)
    assert parts[0][0] >= 0, parts[0]
    return parts[1:]


def pairs_of(answer):
    """What events or moves answer: a count and as many pairs of numbers, the pairs alone."""
    pairs = list(zip(answer[1::2], answer[2::2]))
    assert answer[0] == len(pairs) and len(answer) == 1 + 2 * len(pairs), answer
    return pairs


def parts_of(answer):
    """What components answers, as a list of (number, ends)."""
    found = []
    start = 1
    for component in range(answer[0]):
        behind = start + 2 + answer[start + 1]
        found.append((answer[start], answer[start + 2:behind]))
        start = behind
    assert start == len(answer), answer
    return found


def word_of(shown):
    """The word of a text's main tangle, as pairs of kind and strand."""
    return pairs_of(after(shown, events())[0])


def lines_for(word):
    return "".join(f"/{KINDS[kind]} {strand}" for kind, strand in word)


def text_for(top, word):
    return f"tie t {top}{lines_for(word)}/end"


def random_word(seed, top, length, most):
    """A word with at most so many strands side by side, the same for the same seed."""
    source = random.Random(seed)
    strands = top
    word = []
    while len(word) < length:
        kind = source.choice((0, 1, 0, 1, 2, 3))
        if kind == 2 and strands + 2 <= most:
            word.append((2, source.randint(1, strands + 1)))
            strands += 2
        elif kind != 2 and strands >= 2:
            word.append((kind, source.randint(1, strands - 1)))
            strands -= 2 * (kind == 3)
        elif strands < 2 and most < strands + 2:
            break
    return word


def samples(amount, length, most):
    """So many numbers of strands at the top, each with a word that has so many strands at most."""
    for seed in range(amount):
        top = seed % (most + 1)
        yield top, random_word(seed, top, 1 + seed % length, most)


# The table under "Moves" in DOC.md: for an I and kinds X, Y and Z, what is replaced, and by what.
TABLE = {
    1: lambda i, x, y, z: [([(x, i), (1 - x, i)], [])],
    2: lambda i, x, y, z: [([(CUP, i), (x, i)], [(CUP, i)])],
    3: lambda i, x, y, z: [([(x, i), (CAP, i)], [(CAP, i)])],
    4: lambda i, x, y, z: [([(CUP, i), (CAP, i + 1)], []), ([(CUP, i), (CAP, i - 1)], [])],
    5: lambda i, x, y, z: [([(x, i), (y, i + 1), (z, i)], [(z, i + 1), (y, i), (x, i + 1)])],
    6: lambda i, x, y, z: [([(x, i + 1), (y, i), (z, i + 1)], [(z, i), (y, i + 1), (x, i)])],
    8: lambda i, x, y, z: [([(CUP, i), (x, i + 1)], [(CUP, i + 1), (1 - x, i)])],
    9: lambda i, x, y, z: [([(CUP, i + 1), (x, i)], [(CUP, i), (1 - x, i + 1)])],
    10: lambda i, x, y, z: [([(x, i), (CAP, i + 1)], [(1 - x, i + 1), (CAP, i)])],
    11: lambda i, x, y, z: [([(x, i + 1), (CAP, i)], [(1 - x, i), (CAP, i + 1)])],
}


def rows_at(events_there, kind):
    """The rows of the table that could stand at these events."""
    if kind == 7:
        return exchange_row(events_there)
    rows = []
    for i in (events_there[0][1] - 1, events_there[0][1]):
        for x, y, z in itertools.product((OVER, UNDER), repeat=3):
            if kind not in (5, 6) or x != z or y == x:
                rows += TABLE[kind](i, x, y, z)
    return rows


def exchange_row(events_there):
    if len(events_there) < 2:
        return []
    (kind_e, e), (kind_f, f) = events_there[:2]
    needs = (2, 2, 0, 2)
    leaves = (2, 2, 2, 0)
    if f + needs[kind_f] <= e:
        return [(events_there[:2], [(kind_f, f), (kind_e, e + leaves[kind_f] - needs[kind_f])])]
    if e + leaves[kind_e] <= f:
        return [(events_there[:2], [(kind_f, f + needs[kind_e] - leaves[kind_e]), (kind_e, e)])]
    return []


def plain_moves(word):
    """The moves of a word in order, each as its index, its kind, and the word after it."""
    found = []
    for index in range(len(word)):
        for kind in range(1, 12):
            for old, new in rows_at(word[index:], kind):
                move = (index, kind, word[:index] + new + word[index + len(old):])
                if word[index:index + len(old)] == old and move not in found:
                    found.append(move)
    return found
