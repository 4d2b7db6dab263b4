"""The forms of a row, each row by itself: where it stands is looked at elsewhere."""

from carvebed.errors import NoRow
from carvebed.words import expression, is_name

AXES = ("x", "y", "z")
COMPARISONS = ("<", "=")
MOST_NAMES = 4


def look_at_length(words, least, most):
    if not least <= len(words) <= most:
        raise NoRow("too few or too many words in a row")


def name_of(word):
    if not is_name(word):
        raise NoRow(f"no name: {word!r}")
    return word


def hold_row(words):
    look_at_length(words, 2, 2)
    return ("hold", expression(words[1]))


def move_row(words):
    look_at_length(words, 3, 4)
    by = len(words) == 4
    if words[1] not in AXES or (by and words[2] != "by"):
        raise NoRow("no form of a move")
    return ("move", words[0], words[1], expression(words[-1]), by)


def let_row(words):
    look_at_length(words, 3, 3)
    return ("let", name_of(words[1]), expression(words[2]))


def call_row(words):
    look_at_length(words, 2, 2 + MOST_NAMES)
    return ("call", name_of(words[1]), [expression(word) for word in words[2:]])


def times_row(words):
    look_at_length(words, 3, 3)
    return ("times", name_of(words[1]), expression(words[2]))


def if_row(words):
    look_at_length(words, 4, 4)
    if words[2] not in COMPARISONS:
        raise NoRow("no form of an if")
    return ("if", words[2], expression(words[1]), expression(words[3]))


def bare_row(words):
    look_at_length(words, 1, 1)
    return (words[0],)


def sub_row(words):
    look_at_length(words, 2, 2 + MOST_NAMES)
    return ("sub", name_of(words[1]), [name_of(word) for word in words[2:]])


FORMS = {
    "hold": hold_row,
    "fast": move_row,
    "slow": move_row,
    "let": let_row,
    "call": call_row,
    "times": times_row,
    "if": if_row,
    "else": bare_row,
    "end": bare_row,
    "sub": sub_row,
}


def row_of(text):
    words = text.split(" ")
    if words[0] not in FORMS:
        raise NoRow(f"no form of a row: {text!r}")
    return FORMS[words[0]](words)
