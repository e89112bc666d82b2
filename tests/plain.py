"""A plain store for the tests: rows as they come, gone through one by one."""

from codecolumns.cutting import cut
from codecolumns.forms import room


def holds(condition, row):
    """Whether a condition holds of a row, by the document's words."""
    name, parts = condition[0], condition[1:]
    if name == "all":
        return True
    if name == "not":
        return not holds(parts[0], row)
    if name == "and":
        return all(holds(part, row) for part in parts)
    if name == "or":
        return any(holds(part, row) for part in parts)
    value = row[parts[0]]
    if name == "is":
        return value == parts[1]
    if name == "less":
        return value < parts[1]
    if name == "within":
        return parts[1] <= value and value <= parts[2]
    assert name == "begins"
    return value.startswith(parts[1])


def by_marks(condition, marks):
    """"none", "all" or "some": of which rows a condition holds, by marks alone."""
    if marks is None:
        return "none"
    name, parts = condition[0], condition[1:]
    if name == "all":
        return "all"
    if name in ("not", "and", "or"):
        within = [by_marks(part, marks) for part in parts]
        if name == "not":
            return {"none": "all", "all": "none", "some": "some"}[within[0]]
        weak, strong = ("none", "all") if name == "and" else ("all", "none")
        if weak in within:
            return weak
        return strong if within == [strong, strong] else "some"
    least, greatest = marks[parts[0]]
    if name == "begins":
        condition = ("within", parts[0], parts[1], (parts[1] + "zzzzzz")[:6])
        parts = condition[1:]
    # If any value from the least to the greatest is wanted, one of these is.
    tried = [value for value in [least, greatest, *parts[1:]] if least <= value <= greatest]
    row = {}
    wanted = []
    for value in tried:
        row[parts[0]] = value
        wanted.append(holds(condition, row))
    if not any(wanted):
        return "none"
    return "all" if wanted[0] and wanted[1] else "some"


def column_cells(kind, values):
    cells = 0
    if kind == "word":
        words = sorted(set(values))
        cells = len(words)
        values = [words.index(value) for value in values]
    return cells + sum(room(form) for form in cut(values))


class PlainHeap:
    def __init__(self, kinds, pairs):
        self.pairs = list(pairs)
        self.gone = [False] * len(self.pairs)
        self.laid = column_cells("number", [number for number, _ in self.pairs])
        for at, kind in enumerate(kinds):
            self.laid += column_cells(kind, [row[at] for _, row in self.pairs])

    def there(self):
        return [pair for pair, gone in zip(self.pairs, self.gone) if not gone]

    def cells(self):
        marks = "".join("x" if gone else " " for gone in self.gone)
        return self.laid + 2 * len(marks.split())

    def marks(self):
        rows = [row for _, row in self.there()]
        if not rows:
            return None
        return [(min(values), max(values)) for values in zip(*rows)]


class Plain:
    def __init__(self, kinds):
        self.kinds = kinds
        self.heaps = {}
        self.next_row = 0
        self.next_name = 0

    def take_in(self, pairs):
        name = self.next_name
        self.next_name += 1
        self.heaps[name] = PlainHeap(self.kinds, pairs)
        return name

    def put(self, rows):
        first = self.next_row
        self.next_row += len(rows)
        return self.take_in([(first + at, row) for at, row in enumerate(rows)]), first

    def drop(self, condition):
        numbers = []
        for heap in self.heaps.values():
            for place, (number, row) in enumerate(heap.pairs):
                if not heap.gone[place] and holds(condition, row):
                    heap.gone[place] = True
                    numbers.append(number)
        return sorted(numbers)

    def lay(self, one, other):
        pairs = sorted(self.heaps.pop(one).there() + self.heaps.pop(other).there())
        return self.take_in(pairs) if pairs else None

    def less_together(self, one, other):
        pairs = sorted(self.heaps[one].there() + self.heaps[other].there())
        if len(pairs) > 32:
            return 0
        apart = self.heaps[one].cells() + self.heaps[other].cells()
        return apart - (PlainHeap(self.kinds, pairs).cells() if pairs else 0)

    def tidy(self):
        told = []
        while True:
            names = sorted(self.heaps)
            less = [(self.less_together(one, other), one, other) for one, other in zip(names, names[1:])]
            most = max([choice[0] for choice in less], default=0)
            if most <= 0:
                return told
            one, other = [choice[1:] for choice in less if choice[0] == most][0]
            told.append((one, other, self.lay(one, other)))

    def rows(self, condition):
        found = []
        for heap in self.heaps.values():
            found += [(number, row) for number, row in heap.there() if holds(condition, row)]
        return sorted(found)

    def column(self, column, condition):
        return [row[column] for _, row in self.rows(condition)]

    def count(self, condition):
        return len(self.rows(condition))

    def total(self, column, condition):
        return sum(self.column(column, condition))

    def unlike(self, column, condition):
        values = self.column(column, condition)
        return [(value, values.count(value)) for value in sorted(set(values))]

    def ends(self, column, condition):
        values = self.column(column, condition)
        return (min(values), max(values)) if values else None

    def groups(self, column, other, condition):
        values = self.column(column, condition)
        numbers = self.column(other, condition)
        told = []
        for value in sorted(set(values)):
            summed = [number for beside, number in zip(values, numbers) if beside == value]
            told.append((value, len(summed), sum(summed)))
        return told

    def first(self, column, many, condition):
        return sorted(self.rows(condition), key=lambda pair: (pair[1][column], pair[0]))[:many]

    def marks(self, name):
        return self.heaps[name].marks()

    def passed(self, condition):
        return [name for name in sorted(self.heaps) if by_marks(condition, self.marks(name)) == "none"]

    def told_heaps(self):
        told = []
        for name in sorted(self.heaps):
            heap = self.heaps[name]
            told.append((name, len(heap.there()), len(heap.pairs), heap.cells()))
        return told

    def cells(self):
        return sum(heap.cells() for heap in self.heaps.values())
