"""Texts as bytes: which are valid, what words their lines have, and which lines are well-formed."""

MOST_BYTES = 2000
NEWLINE = 10
BLANK = 32
LAST_BYTE = 126
FIRST_DIGIT = 48
FIRST_LETTER = 97
DIGITS = "0123456789"
LETTERS = "abcdefghijklmnopqrstuvwxyz"

LONGEST_NAME = 8
LARGEST_NUMBER = 99
MOST_STRANDS = 12
MOST_TIMES = 12

KINDS = {"over": 0, "under": 1, "cup": 2, "cap": 3}


def is_valid(text):
    if len(text) > MOST_BYTES:
        return False
    return all([byte == NEWLINE or BLANK <= byte <= LAST_BYTE for byte in text])


def lines_of(text):
    """The lines of a valid text, each as the list of its words."""
    signs = "".join([sign_of(byte) for byte in text])
    return [line.split() for line in signs.split("\n")]


def sign_of(byte):
    if byte == NEWLINE:
        return "\n"
    if byte == BLANK:
        return " "
    if FIRST_DIGIT <= byte < FIRST_DIGIT + len(DIGITS):
        return DIGITS[byte - FIRST_DIGIT]
    if FIRST_LETTER <= byte < FIRST_LETTER + len(LETTERS):
        return LETTERS[byte - FIRST_LETTER]
    # No other byte occurs in a well-formed line, so one sign can stand for all of them.
    return "?"


def is_well_formed(words):
    """Whether the words of a line, one or more, have the form that the first one asks for."""
    first = words[0]
    if first == "tie":
        return len(words) == 3 and is_name(words[1]) and is_number(words[2], 0, MOST_STRANDS)
    if first == "use":
        return is_well_formed_use(words)
    if first == "repeat":
        return len(words) == 2 and is_number(words[1], 1, MOST_TIMES)
    if first in KINDS:
        return len(words) == 2 and is_strand(words[1])
    return first in ("again", "end") and len(words) == 1


def is_well_formed_use(words):
    if len(words) == 4 and words[3] not in ("mirror", "turned"):
        return False
    return len(words) in (3, 4) and is_name(words[1]) and is_strand(words[2])


def is_name(word):
    return len(word) <= LONGEST_NAME and word.isalpha()


def is_strand(word):
    return is_number(word, 1, LARGEST_NUMBER)


def is_number(word, least, most):
    """Whether the word is a number in the range, which ends below 100."""
    if len(word) > 2 or not word.isdigit():
        return False
    if len(word) == 2 and word[0] == "0":
        return False
    return least <= int(word) <= most
