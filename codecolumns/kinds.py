"""Kinds of columns, and the values that a column of each kind takes."""

from codecolumns.errors import BadKinds
from codecolumns.forms import MOST

NUMBER = "number"
WORD = "word"
MOST_COLUMNS = 4
MOST_LETTERS = 6
LETTERS = "abcdefghijklmnopqrstuvwxyz"


def check_kinds(kinds):
    """Refuse what isn't a tuple of one to four kinds."""
    if len(kinds) < 1 or len(kinds) > MOST_COLUMNS:
        raise BadKinds(f"a store has one to {MOST_COLUMNS} columns")
    for kind in kinds:
        if kind != NUMBER and kind != WORD:
            raise BadKinds("there is no such kind")


def is_column(kinds, column):
    return isinstance(column, int) and 0 <= column < len(kinds)


def is_value(kind, value):
    """Tell whether a column of the kind takes the value."""
    if kind == WORD:
        return is_word(value)
    return isinstance(value, int) and -MOST <= value <= MOST


def is_word(value):
    if not isinstance(value, str) or len(value) > MOST_LETTERS:
        return False
    return all([sign in LETTERS for sign in value])
