"""Heaps of rows: columns laid down, and the places whose rows have gone."""

from codecolumns.columns import column_cells, column_values, lay_column
from codecolumns.kinds import NUMBER

MOST_HEAPED = 32
# What each stretch of places whose rows have gone adds to a heap's cells.
GONE_CELLS = 2


class Heap:
    """A heap; taken are the blocks of the disk in which its columns lie, in turn."""

    def __init__(self, name, columns, gone, taken):
        self.name = name
        # The columns of the rows in turn, and behind them the row numbers.
        self.columns = columns
        # Of each place a truth: whether its row has gone.
        self.gone = gone
        self.taken = taken
        # Kept, as every question asks for them.
        self.ends_told = ends_of(self.there())

    def there(self):
        """Tell (number, row) of the rows that are there, by their places."""
        values = [column_values(column) for column in self.columns[:-1]]
        rows = list(zip(*values))
        return [(number, row) for number, row, gone in zip(self.numbers(), rows, self.gone) if not gone]

    def numbers(self):
        """Tell the row numbers of all places."""
        return column_values(self.columns[-1])

    def marks(self):
        """Tell (least, greatest) of each column, a new list, or None if no row is there."""
        if self.ends_told is None:
            return None
        return list(self.ends_told)

    def cells(self):
        laid_down = sum([column_cells(column) for column in self.columns])
        return laid_down + GONE_CELLS * stretches_of(self.gone)

    def without(self, dropped):
        """Tell this heap with those rows gone too whose numbers are the keys of dropped."""
        gone = [was or number in dropped for number, was in zip(self.numbers(), self.gone)]
        return Heap(self.name, self.columns, gone, self.taken)


def ends_of(pairs):
    if not pairs:
        return None
    rows = [row for _, row in pairs]
    return [(min(values), max(values)) for values in zip(*rows)]


def stretches_of(gone):
    """Tell how many stretches of truths there are."""
    many = 0
    ahead = False
    for truth in gone:
        if truth and not ahead:
            many += 1
        ahead = truth
    return many


def lay_rows(kinds, pairs):
    """Tell the columns of (number, row)s as they are laid down, that of the numbers last."""
    columns = []
    for at, kind in enumerate(kinds):
        columns.append(lay_column(kind, [row[at] for _, row in pairs]))
    columns.append(lay_column(NUMBER, [number for number, _ in pairs]))
    return columns


def together(one, other):
    """Tell (number, row) of the rows of two heaps that are there, by their numbers."""
    return sorted(one.there() + other.there())


def cells_less(kinds, one, other):
    """Tell how many cells two heaps have less together than by themselves; 0 for too many rows."""
    pairs = together(one, other)
    if len(pairs) > MOST_HEAPED:
        return 0
    cells = 0
    if pairs:
        cells = sum([column_cells(column) for column in lay_rows(kinds, pairs)])
    return one.cells() + other.cells() - cells
