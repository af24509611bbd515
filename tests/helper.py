"""What the tests share: calls as lists of numbers, and answers taken apart again."""

import random

from tiedtangles.tangles import answers

KINDS = ("over", "under", "cup", "cap")


def bytes_of(shown):
    """A text as it is shown in DOC.md, with / for a newline."""
    return [10 if sign == "/" else ord(sign) for sign in shown]


def load_bytes(text):
    return [1, len(text)] + text + [0]


def load(shown):
    return load_bytes(bytes_of(shown))


def events():
    return [2, 0, 0]


def components():
    return [3, 0, 0]


def linking(component1, component2):
    return [4, 2, component1, component2, 0]


def count_colorings(p):
    return [5, 1, p, 0]


def colorings_with(p, colors):
    return [6, 1 + len(colors), p] + colors + [0]


def joined(calls):
    return [number for call in calls for number in call]


def parted(answered):
    """Each answer as a list of its own."""
    parts = []
    start = 0
    while start < len(answered):
        behind = start + 1 + answered[start]
        assert answered[start] >= 1 and behind <= len(answered), answered
        parts.append(answered[start + 1:behind])
        start = behind
    return parts


def ask(*calls):
    return parted(answers(joined(calls)))


def after(shown, *calls):
    """The answers to the calls when the text, which has no error, is loaded ahead of them."""
    parts = ask(load(shown), *calls)
    assert parts[0][0] >= 0, parts[0]
    return parts[1:]


def word_of(shown):
    """The word of a text's main tangle, as pairs of kind and strand."""
    answer = after(shown, events())[0]
    pairs = list(zip(answer[1::2], answer[2::2]))
    assert answer[0] == len(pairs) and len(answer) == 1 + 2 * len(pairs)
    return pairs


def lines_for(word):
    return "".join(f"/{KINDS[kind]} {strand}" for kind, strand in word)


def random_word(seed, top, length, most):
    """A word with at most so many strands side by side, the same for the same seed."""
    source = random.Random(seed)
    strands = top
    word = []
    while len(word) < length:
        kind = source.choice((0, 1, 0, 1, 2, 3))
        if kind == 2 and strands + 2 <= most:
            word.append((2, source.randint(1, strands + 1)))
            strands += 2
        elif kind != 2 and strands >= 2:
            word.append((kind, source.randint(1, strands - 1)))
            strands -= 2 * (kind == 3)
        elif strands < 2 and most < strands + 2:
            break
    return word
