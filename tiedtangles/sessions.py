"""The operations on one object, with the text that it has loaded."""

from tiedtangles.codes import FINE, NO_SUCH_MOVE, NO_TEXT, OUT_OF_RANGE, TOO_LARGE
from tiedtangles.colorings import Colorings, are_colors, is_color_number, is_countable, is_too_large
from tiedtangles.colorings import number_of_colorings
from tiedtangles.components import Tracing
from tiedtangles.differences import first_difference
from tiedtangles.levels import MOST_LEVELS, Levels
from tiedtangles.moves import after_move, moves_of
from tiedtangles.texts import Reader
from tiedtangles.words import Tangle, count_crossings, count_cups

LOAD = 1
EVENTS = 2
COMPONENTS = 3
LINKING = 4
COUNT_COLORINGS = 5
COLORINGS_WITH = 6
MOVES = 7
APPLY_MOVE = 8
SIMPLIFY = 9
RESET = 10


class Session:
    """The main tangle, and the current word as a tangle; each operation answers a list of numbers.

    Neither of the two is ever changed itself: another one takes its place.
    """

    def __init__(self):
        self.main = None
        self.current = None

    def answer(self, call, values):
        if call == LOAD:
            return self.load(values)
        if self.main is None:
            return [NO_TEXT]
        if call == EVENTS:
            return self.events()
        if call == COMPONENTS:
            return self.components()
        if call == LINKING:
            return self.linking(values[0], values[1])
        if call == COUNT_COLORINGS:
            return self.count_colorings(values[0])
        if call == COLORINGS_WITH:
            return self.colorings_with(values[0], values[1:])
        if call == MOVES:
            return self.moves()
        if call == APPLY_MOVE:
            return self.apply_move(values[0])
        if call == SIMPLIFY:
            return self.simplify(values[0])
        if call == RESET:
            return self.reset()
        return self.compare(values)

    def load(self, text):
        reader = Reader()
        refusal = reader.read(text)
        if refusal != FINE:
            return [refusal]
        self.main = reader.main
        self.current = self.main
        word = self.main.word
        return [self.main.top, self.main.bottom, len(word), count_crossings(word)]

    def events(self):
        answered = [len(self.current.word)]
        for kind, strand in self.current.word:
            answered.extend([kind, strand])
        return answered

    def components(self):
        tracing = Tracing(self.current.top, self.current.word)
        numbers = tracing.component_numbers()
        answered = [len(numbers)]
        for component in numbers:
            ends = tracing.ends_of(component)
            answered.extend([component, len(ends)])
            answered.extend(ends)
        return answered

    def linking(self, component1, component2):
        tracing = Tracing(self.current.top, self.current.word)
        numbers = tracing.component_numbers()
        if component1 not in numbers or component2 not in numbers or component1 == component2:
            return [OUT_OF_RANGE]
        return [tracing.linking_of(component1, component2)]

    def count_colorings(self, p):
        if not is_color_number(p):
            return [OUT_OF_RANGE]
        if not is_countable(self.current, p):
            return [TOO_LARGE]
        return [number_of_colorings(self.current, p)]

    def colorings_with(self, p, colors):
        if not is_color_number(p) or not are_colors(colors, p, self.current.top):
            return [OUT_OF_RANGE]
        if is_too_large(p, count_cups(self.current.word)):
            return [TOO_LARGE]
        colorings = Colorings(p)
        colorings.set_top(colors)
        colorings.follow_word(self.current.word)
        if colorings.number == 0:
            return [0]
        return [colorings.number] + colorings.bottom_of_first()

    def moves(self):
        found = moves_of(self.current.word)
        answered = [len(found)]
        for move in found:
            answered.extend([move.start, move.kind])
        return answered

    def apply_move(self, index):
        found = moves_of(self.current.word)
        # A negative index would be counted from the end.
        if not 0 <= index < len(found):
            return [NO_SUCH_MOVE]
        word = after_move(self.current.word, found[index])
        self.current = Tangle(self.current.top, word)
        return [len(word), count_crossings(word)]

    def simplify(self, levels):
        if not 0 <= levels <= MOST_LEVELS:
            return [OUT_OF_RANGE]
        search = Levels(self.current.word)
        for step in range(levels):
            search.add_level()
            if search.has_too_many():
                return [TOO_LARGE]
        return [search.fewest_crossings, search.first_with_fewest, len(search.known)]

    def reset(self):
        self.current = self.main
        return [len(self.current.word)]

    def compare(self, text):
        reader = Reader()
        refusal = reader.read(text)
        if refusal != FINE:
            return [refusal]
        return [first_difference(self.current, reader.main)]
