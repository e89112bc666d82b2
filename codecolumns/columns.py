"""A heap's columns as they are laid down: a tuple of words, and the forms of a cut."""

from codecolumns.cutting import cut
from codecolumns.forms import room, values_of
from codecolumns.kinds import WORD


def lay_column(kind, values):
    """Tell how the values of a column are laid down: (words, forms), no words where there are numbers."""
    if kind != WORD:
        return (), cut(values)
    words = tuple(sorted(set(values)))
    return words, cut([words.index(word) for word in values])


def column_values(column):
    """Tell the values of a column, a new list."""
    words, forms = column
    told = []
    for form in forms:
        told.extend(values_of(form))
    # A heap isn't empty, so a column without words is one of numbers.
    if words:
        return [words[place] for place in told]
    return told


def column_cells(column):
    words, forms = column
    return len(words) + sum([room(form) for form in forms])
