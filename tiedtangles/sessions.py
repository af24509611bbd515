"""The operations on one object, with the text that it has loaded."""

from tiedtangles.codes import FINE, NO_TEXT, OUT_OF_RANGE, TOO_LARGE
from tiedtangles.colorings import Colorings, are_colors, is_color_number, is_too_large
from tiedtangles.components import Tracing
from tiedtangles.texts import Reader
from tiedtangles.words import count_crossings, count_cups

LOAD = 1
EVENTS = 2
COMPONENTS = 3
LINKING = 4
COUNT_COLORINGS = 5
COLORINGS_WITH = 6


class CallNotBuilt(Exception):
    """A call was asked for that this version of the program does not have."""


class Session:
    """The main tangle and the current word; each operation answers a list of numbers."""

    def __init__(self):
        self.main = None
        self.word = []

    def answer(self, call, values):
        if call == LOAD:
            return self.load(values)
        if self.main is None:
            return [NO_TEXT]
        if call == EVENTS:
            return self.events()
        if call == COMPONENTS:
            return self.components()
        if call == LINKING:
            return self.linking(values[0], values[1])
        if call == COUNT_COLORINGS:
            return self.count_colorings(values[0])
        if call == COLORINGS_WITH:
            return self.colorings_with(values[0], values[1:])
        raise CallNotBuilt(f"call {call} is not built yet")

    def load(self, text):
        reader = Reader()
        refusal = reader.read(text)
        if refusal != FINE:
            return [refusal]
        self.main = reader.main
        self.word = list(reader.main.word)
        return [self.main.top, self.main.bottom, len(self.word), count_crossings(self.word)]

    def events(self):
        answered = [len(self.word)]
        for kind, strand in self.word:
            answered.extend([kind, strand])
        return answered

    def components(self):
        tracing = Tracing(self.main.top, self.word)
        numbers = tracing.component_numbers()
        answered = [len(numbers)]
        for component in numbers:
            ends = tracing.ends_of(component)
            answered.extend([component, len(ends)])
            answered.extend(ends)
        return answered

    def linking(self, component1, component2):
        tracing = Tracing(self.main.top, self.word)
        numbers = tracing.component_numbers()
        if component1 not in numbers or component2 not in numbers or component1 == component2:
            return [OUT_OF_RANGE]
        return [tracing.linking_of(component1, component2)]

    def count_colorings(self, p):
        if not is_color_number(p):
            return [OUT_OF_RANGE]
        if is_too_large(p, self.main.top + count_cups(self.word)):
            return [TOO_LARGE]
        colorings = Colorings(p)
        colorings.choose_top(self.main.top)
        colorings.follow_word(self.word)
        return [colorings.number]

    def colorings_with(self, p, colors):
        if not is_color_number(p) or not are_colors(colors, p, self.main.top):
            return [OUT_OF_RANGE]
        if is_too_large(p, count_cups(self.word)):
            return [TOO_LARGE]
        colorings = Colorings(p)
        colorings.set_top(colors)
        colorings.follow_word(self.word)
        if colorings.number == 0:
            return [0]
        return [colorings.number] + colorings.bottom_of_first()
