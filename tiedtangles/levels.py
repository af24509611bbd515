"""Simplification by moves: the words that can be reached, level by level."""

from tiedtangles.moves import after_move, moves_of
from tiedtangles.words import count_crossings

MOST_LEVELS = 4
MOST_WORDS = 600


class Levels:
    """All words of the levels so far, and where the smallest number of crossings is found first."""

    def __init__(self, word):
        self.known = {tuple(word): True}
        self.last_number = 0
        self.last_words = [word]
        self.fewest_crossings = count_crossings(word)
        self.first_with_fewest = 0

    def add_level(self):
        """Adds the next level. Once there are too many words, it is left unfinished."""
        fresh = []
        for word in self.last_words:
            for move in moves_of(word):
                reached = after_move(word, move)
                if tuple(reached) not in self.known:
                    self.known[tuple(reached)] = True
                    fresh.append(reached)
            if self.has_too_many():
                return
        self.last_number += 1
        self.last_words = fresh
        fewest = min([count_crossings(word) for word in fresh], default=self.fewest_crossings)
        if fewest < self.fewest_crossings:
            self.fewest_crossings = fewest
            self.first_with_fewest = self.last_number

    def has_too_many(self):
        return len(self.known) > MOST_WORDS
