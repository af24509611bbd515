"""Words: lists of events from top to bottom, each a pair of its kind and its strand."""

OVER = 0
UNDER = 1
CUP = 2
CAP = 3

# For each kind of event: by how much the number of strands grows, and what the kind becomes.
GROWTH = (0, 0, 2, -2)
MIRRORED_KIND = (1, 0, 2, 3)
TURNED_KIND = (1, 0, 3, 2)


class Tangle:
    """A word with the numbers of strands at its top and at its bottom."""

    def __init__(self, top, word):
        self.top = top
        self.bottom = heights(top, word)[-1]
        self.word = word


def heights(top, word):
    """The number of strands at the top and after each event."""
    strands = top
    numbers = [strands]
    for kind, strand in word:
        strands += GROWTH[kind]
        numbers.append(strands)
    return numbers


def mirrored(tangle):
    """The tangle reflected left to right."""
    events = []
    strands = tangle.top
    for kind, strand in tangle.word:
        place = strands - strand
        if kind == CUP:
            # The row that a reflected cup is counted in has its two strands already.
            place += 2
        events.append((MIRRORED_KIND[kind], place))
        strands += GROWTH[kind]
    return Tangle(tangle.top, events)


def turned(tangle):
    """The tangle turned upside down."""
    events = [(TURNED_KIND[kind], strand) for kind, strand in reversed(tangle.word)]
    return Tangle(tangle.bottom, events)


def shifted(word, distance):
    """The word with every event so many strands further to the right."""
    return [(kind, strand + distance) for kind, strand in word]


def count_crossings(word):
    return len([kind for kind, strand in word if kind in (OVER, UNDER)])


def count_cups(word):
    return len([kind for kind, strand in word if kind == CUP])
