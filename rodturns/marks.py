"""The marks in the text of a rule, and how a text is cut into its parts."""

from rodturns.errors import TextError

FREE = "-"
STRAIGHT = "="
FOLDED = "~"
HINGES = "-=~"

RIGHT = ">"
LEFT = "<"
AIMS = "><"
NO_AIMS = ""

FIRST_DIGITS = "123456789"
DIGITS = "0123456789"


def cut(text, most_rods, most_length, hinges, aims):
    """The lengths, the marks of the hinges and the aims (perhaps empty) of the rods, three lists.

    Only the marks in hinges and in aims may stand in the text.
    """
    if not isinstance(text, str):
        raise TextError(0)
    lengths = []
    between = []
    aimed = []
    at = 0
    while True:
        size = length_size(text, at, most_length)
        if size == 0:
            raise TextError(at)
        lengths.append(int(text[at:at + size]))
        aim = letter_at(text, at + size, aims)
        aimed.append(aim)
        at += size + len(aim)
        if at == len(text):
            return lengths, between, aimed
        mark = letter_at(text, at, hinges)
        # A mark behind the last rod that a rule can have begins nothing.
        if mark == "" or len(lengths) == most_rods:
            raise TextError(at)
        between.append(mark)
        at += 1


def length_size(text, at, most_length):
    """How many characters of a length stand at this place: 0, 1 or 2."""
    if letter_at(text, at, FIRST_DIGITS) == "":
        return 0
    if letter_at(text, at + 1, DIGITS) != "" and int(text[at:at + 2]) <= most_length:
        return 2
    return 1


def letter_at(text, at, letters):
    """The character at this place if it is one of these letters, otherwise the empty text."""
    if at < len(text) and text[at] in letters:
        return text[at]
    return ""
