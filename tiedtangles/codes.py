"""The numbers that stand for errors, in answers and in texts."""

OUT_OF_RANGE = -2
NO_SUCH_MOVE = -3
NO_TEXT = -7
TOO_LARGE = -8

FINE = 0
NOT_WELL_FORMED = 1
WRONG_NAME = 2
NO_SUCH_STRANDS = 3
WRONG_REPEAT = 4
LIMIT_EXCEEDED = 5
UNFINISHED = 6


def text_error(line, code):
    """What is answered for an error on a line of a text."""
    return -(100 * line + code + 10)
