"""A store of rows in heaps, on a disk."""

from codecolumns.conditions import NONE, check_condition, held_by, holds
from codecolumns.errors import BadColumn, BadHeap, BadKinds, BadNumber, BadRows, TooMany
from codecolumns.heaps import MOST_HEAPED, Heap, cells_less, lay_rows, together
from codecolumns.kinds import NUMBER, check_kinds, is_column, is_value
from codecolumns.layout import ROOT, blocks_beside, kinds_text, read_heaps, write_columns, write_root

MOST_HEAPS = 12
MOST_ROWS = 10000
MOST_FIRST = 100


class Store:
    """Rows of columns of these kinds, in heaps by their names."""

    def __init__(self, disk, kinds):
        root = disk.read(ROOT)
        check_kinds(kinds)
        self.disk = disk
        self.kinds = tuple(kinds)
        self.next_row = 0
        self.next_name = 0
        # By their names, rising: a new heap has the greatest one.
        self.heaps = []
        if root is None:
            self.change([], 0, 0)
        else:
            self.take_up(root)

    def take_up(self, root):
        """Become as the store ahead was when it settled this root."""
        text, next_row, next_name, told = root
        if text != kinds_text(self.kinds):
            raise BadKinds("the store on this disk has other kinds")
        self.heaps = read_heaps(self.disk, self.kinds, told)
        self.next_row = next_row
        self.next_name = next_name

    def change(self, heaps, next_row, next_name):
        """Settle that the store is so from now on, as a whole."""
        write_root(self.disk, self.kinds, next_row, next_name, heaps)
        self.disk.settle()
        self.heaps = heaps
        self.next_row = next_row
        self.next_name = next_name

    def lay_down(self, pairs, others, next_row):
        """Change to these other heaps and one of the (number, row)s, whose name is told; None for no rows."""
        if not pairs:
            self.change(others, next_row, self.next_name)
            return None
        columns = lay_rows(self.kinds, pairs)
        taken = write_columns(self.disk, columns, self.heaps)
        # Ahead of the root that tells of it: behind a stop there is all of the heap or no word of it.
        self.disk.settle()
        name = self.next_name
        heap = Heap(name, columns, [False] * len(pairs), taken)
        self.change(others + [heap], next_row, name + 1)
        return name

    def put(self, rows):
        """Take a heap of rows in, and tell (its name, its first row's number)."""
        check_rows(self.kinds, rows)
        if len(self.heaps) >= MOST_HEAPS:
            raise TooMany(f"there are at most {MOST_HEAPS} heaps")
        number = self.next_row
        if number + len(rows) > MOST_ROWS:
            raise TooMany(f"at most {MOST_ROWS} rows come in all")
        name = self.lay_down(list(enumerate(rows, start=number)), self.heaps, number + len(rows))
        return name, number

    def drop(self, condition):
        """Let all rows go of which a condition holds, and tell their numbers, rising."""
        numbers = [number for number, _ in self.rows(condition)]
        if numbers:
            dropped = {number: True for number in numbers}
            self.change([heap.without(dropped) for heap in self.heaps], self.next_row, self.next_name)
        return numbers

    def lay(self, one, other):
        """Lay two heaps together, and tell the new one's name, or None if no row is there."""
        first = self.heap_of(one)
        second = self.heap_of(other)
        if one == other:
            raise BadHeap("a heap isn't laid together with itself")
        pairs = together(first, second)
        if len(pairs) > MOST_HEAPED:
            raise TooMany(f"there are at most {MOST_HEAPED} rows in a heap")
        others = [heap for heap in self.heaps if heap.name != one and heap.name != other]
        return self.lay_down(pairs, others, self.next_row)

    def tidy(self):
        """Lay neighbours together as long as that has fewer cells: tell (one, other, new name or None) of each."""
        told = []
        known = {}
        best = self.best_neighbours(known)
        while best is not None:
            one, other = best
            told.append((one, other, self.lay(one, other)))
            best = self.best_neighbours(known)
        return told

    def best_neighbours(self, known):
        """Tell the names of the first neighbours that have the most cells less together; None if none have."""
        # What is known of neighbours holds as long as no row goes: no name is given twice.
        best = None
        most = 0
        for one, other in zip(self.heaps, self.heaps[1:]):
            names = (one.name, other.name)
            if names not in known:
                known[names] = cells_less(self.kinds, one, other)
            if known[names] > most:
                best = names
                most = known[names]
        return best

    def count(self, condition):
        """Tell of how many rows a condition holds."""
        return len(self.rows(condition))

    def total(self, column, condition):
        """Tell the sum of a column's numbers."""
        self.check_summed(column)
        return sum([row[column] for _, row in self.rows(condition)])

    def unlike(self, column, condition):
        """Tell the rising list of (value, how often) of a column."""
        self.check_column(column)
        many = {}
        for _, row in self.rows(condition):
            many[row[column]] = many.get(row[column], 0) + 1
        return [(value, many[value]) for value in sorted(many)]

    def ends(self, column, condition):
        """Tell (least, greatest) of a column, None for no rows."""
        self.check_column(column)
        values = [row[column] for _, row in self.rows(condition)]
        if not values:
            return None
        return min(values), max(values)

    def groups(self, column, other, condition):
        """Tell the rising list of (value, how many, the sum of the other column's numbers) of a column."""
        self.check_column(column)
        self.check_summed(other)
        numbers = {}
        for _, row in self.rows(condition):
            numbers.setdefault(row[column], []).append(row[other])
        return [(value, len(numbers[value]), sum(numbers[value])) for value in sorted(numbers)]

    def rows(self, condition):
        """Tell (number, row) of the rows that are there and of which a condition holds, rising."""
        check_condition(self.kinds, condition)
        found = []
        for heap in self.heaps:
            if held_by(condition, heap.marks()) != NONE:
                found.extend([(number, row) for number, row in heap.there() if holds(condition, row)])
        return sorted(found)

    def first(self, column, many, condition):
        """Tell (number, row) of the first so many rows by a column, then by their numbers."""
        self.check_column(column)
        if many < 0 or many > MOST_FIRST:
            raise BadNumber(f"the first 0 to {MOST_FIRST} are told")
        found = sorted(self.rows(condition), key=lambda pair: (pair[1][column], pair[0]))
        return found[:many]

    def marks(self, name):
        """Tell (least, greatest) of each column of a heap's rows that are there; None if there are none."""
        return self.heap_of(name).marks()

    def passed(self, condition):
        """Tell the rising names of the heaps of which by their marks alone a condition holds of no row."""
        check_condition(self.kinds, condition)
        return [heap.name for heap in self.heaps if held_by(condition, heap.marks()) == NONE]

    def told_heaps(self):
        """Tell (name, rows that are there, rows in all, cells) of all heaps, by their names."""
        return [(heap.name, len(heap.there()), len(heap.gone), heap.cells()) for heap in self.heaps]

    def cells(self):
        """Tell the cells of all heaps together."""
        return sum([heap.cells() for heap in self.heaps])

    def free(self):
        """Tell in how many blocks nothing of the store lies."""
        return len(blocks_beside(self.heaps))

    def heap_of(self, name):
        for heap in self.heaps:
            if heap.name == name:
                return heap
        raise BadHeap(f"there is no heap {name}")

    def check_column(self, column):
        if not is_column(self.kinds, column):
            raise BadColumn(f"there is no column {column}")

    def check_summed(self, column):
        self.check_column(column)
        if self.kinds[column] != NUMBER:
            raise BadColumn("words have no sum")


def check_rows(kinds, rows):
    """Refuse what isn't a list of one to 32 rows of these kinds."""
    if len(rows) == 0:
        raise BadRows(0)
    for place, row in enumerate(rows):
        if place >= MOST_HEAPED or not is_row(kinds, row):
            raise BadRows(place)


def is_row(kinds, row):
    if not isinstance(row, tuple) or len(row) != len(kinds):
        return False
    return all([is_value(kind, value) for kind, value in zip(kinds, row)])
