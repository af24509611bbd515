"""Reads a program text, line by line, up to its main tangle or its first error."""

from tiedtangles.codes import FINE, LIMIT_EXCEEDED, NO_SUCH_STRANDS, NOT_WELL_FORMED
from tiedtangles.codes import OUT_OF_RANGE, UNFINISHED, WRONG_NAME, WRONG_REPEAT, text_error
from tiedtangles.lines import KINDS, MOST_STRANDS, is_valid, is_well_formed, lines_of
from tiedtangles.words import CUP, Tangle, heights, mirrored, shifted, turned

MOST_TANGLES = 12
MOST_EVENTS = 60
MOST_REPEATS = 4


class Repeat:
    """A `repeat` that is not yet ended: how often, from which event on, at how many strands."""

    def __init__(self, times, start, strands):
        self.times = times
        self.start = start
        self.strands = strands


class Reader:
    """What has been read so far. The methods for lines answer the code of the error, or FINE."""

    def __init__(self):
        self.tangles = {}
        self.main = None
        self.inside = False
        self.name = ""
        self.top = 0
        self.strands = 0
        self.word = []
        self.repeats = []

    def read(self, text):
        """Answers FINE, with the main tangle in self.main, or the answer that refuses the text."""
        if not is_valid(text):
            return OUT_OF_RANGE
        lines = lines_of(text)
        for index, words in enumerate(lines):
            code = self.read_line(words)
            if code != FINE:
                return text_error(index + 1, code)
        if self.inside or self.main is None:
            return text_error(len(lines) + 1, UNFINISHED)
        return FINE

    def read_line(self, words):
        if len(words) == 0:
            return FINE
        first = words[0]
        if not is_well_formed(words) or self.inside == (first == "tie"):
            return NOT_WELL_FORMED
        if first == "tie":
            return self.read_tie(words[1], int(words[2]))
        if first == "use":
            return self.read_use(words[1], int(words[2]), words[3:])
        if first == "repeat":
            return self.read_repeat(int(words[1]))
        if first == "again":
            return self.read_again()
        if first == "end":
            return self.read_end()
        return self.read_event(KINDS[first], int(words[1]))

    def read_tie(self, name, strands):
        if name in self.tangles:
            return WRONG_NAME
        if len(self.tangles) == MOST_TANGLES:
            return LIMIT_EXCEEDED
        self.inside = True
        self.name = name
        self.top = strands
        self.strands = strands
        self.word = []
        return FINE

    def read_event(self, kind, strand):
        last_place = self.strands - 1
        if kind == CUP:
            last_place = self.strands + 1
        if strand > last_place:
            return NO_SUCH_STRANDS
        return self.add_events([(kind, strand)])

    def read_use(self, name, strand, manner):
        # A tangle that is still being read is not among these, so it can't be used in itself.
        if name not in self.tangles:
            return WRONG_NAME
        tangle = self.tangles[name]
        if manner == ["mirror"]:
            tangle = mirrored(tangle)
        if manner == ["turned"]:
            tangle = turned(tangle)
        if self.strands < strand - 1 + tangle.top:
            return NO_SUCH_STRANDS
        return self.add_events(shifted(tangle.word, strand - 1))

    def read_repeat(self, times):
        if len(self.repeats) == MOST_REPEATS:
            return LIMIT_EXCEEDED
        self.repeats.append(Repeat(times, len(self.word), self.strands))
        return FINE

    def read_again(self):
        if len(self.repeats) == 0 or self.repeats[-1].strands != self.strands:
            return WRONG_REPEAT
        repeat = self.repeats.pop()
        # The lines between have put their events into the word once already.
        return self.add_events(self.word[repeat.start:] * (repeat.times - 1))

    def read_end(self):
        if len(self.repeats) > 0:
            return WRONG_REPEAT
        self.main = Tangle(self.top, self.word)
        self.tangles[self.name] = self.main
        self.inside = False
        return FINE

    def add_events(self, events):
        """Puts events at the end of the word, all of whose strands exist."""
        numbers = heights(self.strands, events)
        if len(self.word) + len(events) > MOST_EVENTS or max(numbers) > MOST_STRANDS:
            return LIMIT_EXCEEDED
        self.word.extend(events)
        self.strands = numbers[-1]
        return FINE
