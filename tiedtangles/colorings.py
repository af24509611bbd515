"""Colorings of a word with p colors."""

from tiedtangles.words import CAP, CUP, OVER, count_cups

FEWEST_COLORS = 2
MOST_COLORS = 9
MOST_COLORINGS = 3000


class Colorings:
    """All colorings of the events so far, one beside the other.

    In the k-th coloring, strand s + 1 has the color columns[s][k]. The colorings are in the
    lexicographic order of the colors that were chosen freely, the earliest choice first.
    """

    def __init__(self, p):
        self.p = p
        self.number = 1
        self.columns = []

    def choose_top(self, strands):
        """Gives the strands at the top all colors."""
        for strand in range(strands):
            column = self.free_column()
            self.columns.append(column)

    def set_top(self, colors):
        """Gives the strands at the top these colors alone."""
        self.columns = [[color] for color in colors]

    def free_column(self):
        """Splits each coloring into p and answers a column that takes a color in each of these."""
        p = self.p
        split = self.number * p
        self.columns = [[column[k // p] for k in range(split)] for column in self.columns]
        column = list(range(p)) * self.number
        self.number = split
        return column

    def follow_word(self, word):
        for kind, strand in word:
            left = strand - 1
            if kind == CUP:
                column = self.free_column()
                self.columns.insert(left, column)
                self.columns.insert(left, column)
            elif kind == CAP:
                self.keep_equal(self.columns.pop(left), self.columns.pop(left))
            else:
                self.cross_columns(kind, left)

    def keep_equal(self, first, second):
        """Keeps the colorings in which two columns, taken out already, agree."""
        kept = [k for k in range(self.number) if first[k] == second[k]]
        self.columns = [[column[k] for k in kept] for column in self.columns]
        self.number = len(kept)

    def cross_columns(self, kind, left):
        first = self.columns[left]
        second = self.columns[left + 1]
        if kind == OVER:
            self.columns[left] = self.passed_under(first, second)
            self.columns[left + 1] = first
        else:
            self.columns[left] = second
            self.columns[left + 1] = self.passed_under(second, first)

    def passed_under(self, upper, lower):
        return [(2 * a - b) % self.p for a, b in zip(upper, lower)]

    def bottom_of_first(self):
        """The colors at the bottom in the first coloring, of which there is one."""
        return [column[0] for column in self.columns]


def is_color_number(p):
    return FEWEST_COLORS <= p <= MOST_COLORS


def are_colors(colors, p, strands):
    return len(colors) == strands and all([0 <= color < p for color in colors])


def is_too_large(p, choices):
    """Whether so many free choices among p colors exceed the limit."""
    number = 1
    for choice in range(choices):
        number *= p
    return number > MOST_COLORINGS


def is_countable(tangle, p):
    return not is_too_large(p, tangle.top + count_cups(tangle.word))


def number_of_colorings(tangle, p):
    colorings = Colorings(p)
    colorings.choose_top(tangle.top)
    colorings.follow_word(tangle.word)
    return colorings.number
