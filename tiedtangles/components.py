"""Components: which pieces of a word's strings belong together, and how often they are linked."""

from tiedtangles.words import CAP, CUP, OVER

DOWN = 1
UP = -1
FIRST_BOTTOM_END = 100


class Tracing:
    """Follows the strands of a word from top to bottom.

    A leg is a piece of string that bends nowhere: a strand from the top, or one half of a cup.
    """

    def __init__(self, top, word):
        self.top = top
        self.component_of = list(range(top))
        self.direction_of = [DOWN] * top
        self.fresh_component = top
        self.row = list(range(top))
        self.crossings = []
        for kind, strand in word:
            self.follow(kind, strand - 1)

    def follow(self, kind, left):
        if kind == CUP:
            self.begin_legs(left)
        elif kind == CAP:
            first = self.row.pop(left)
            second = self.row.pop(left)
            self.join_legs(first, second)
        else:
            sign = 1 if kind == OVER else -1
            self.crossings.append((self.row[left], self.row[left + 1], sign))
            self.row.insert(left, self.row.pop(left + 1))

    def begin_legs(self, left):
        for direction in (DOWN, UP):
            self.row.insert(left, len(self.component_of))
            self.component_of.append(self.fresh_component)
            self.direction_of.append(direction)
        self.fresh_component += 1

    def join_legs(self, first, second):
        one = self.component_of[first]
        other = self.component_of[second]
        # Where both legs are of one component already, their directions differ as they should.
        if one == other:
            return
        turn = -self.direction_of[first] * self.direction_of[second]
        kept = min(one, other)
        given_up = max(one, other)
        for leg, component in enumerate(list(self.component_of)):
            if component == given_up:
                self.component_of[leg] = kept
                self.direction_of[leg] *= turn

    def component_numbers(self):
        return sorted(set(self.component_of))

    def ends_of(self, component):
        """The ends of a component, in increasing order."""
        upper = [leg for leg in range(self.top) if self.component_of[leg] == component]
        lower = [
            FIRST_BOTTOM_END + place
            for place, leg in enumerate(self.row)
            if self.component_of[leg] == component
        ]
        return upper + lower

    def linking_of(self, component1, component2):
        """The linking of two different components."""
        wanted = sorted([component1, component2])
        total = 0
        for first, second, sign in self.crossings:
            if sorted([self.component_of[first], self.component_of[second]]) == wanted:
                total += sign * self.direction_of[first] * self.direction_of[second]
        return abs(total)

    def joined_ends(self):
        """The ends of each component, with [] for each closed one, whatever the components' numbers."""
        return sorted([self.ends_of(component) for component in self.component_numbers()])

    def linkings(self):
        """The sorted list of the linkings of all pairs of components."""
        numbers = self.component_numbers()
        found = []
        for place, component in enumerate(numbers):
            found.extend([self.linking_of(component, other) for other in numbers[place + 1:]])
        return sorted(found)
