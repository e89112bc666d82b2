"""What the tests of the store share: rows, conditions and disks that are made up, and what a store tells."""

from codecolumns.disk import Disk
from codecolumns.store import Store

ALL = ("all",)
# Kinds of one to four columns, of both kinds.
MANY_KINDS = [
    ("number",), ("word",), ("number", "word"), ("word", "number"), ("word", "word", "number"),
    ("number", "number", "word", "word"), ("number", "word", "number", "number"),
]
WORDS = ["", "a", "ab", "abc", "abz", "ac", "b", "ba", "z", "zz", "zzzzzz", "abcdef", "m"]


def some_word(dice):
    if dice.random() < 0.8:
        return dice.choice(WORDS)
    return "".join(dice.choice("abmyz") for _ in range(dice.randint(0, 6)))


def some_value(dice, kind, far=20):
    if kind == "word":
        return some_word(dice)
    return dice.randint(-far, far)


def some_row(dice, kinds, far=20):
    return tuple(some_value(dice, kind, far) for kind in kinds)


def some_rows(dice, kinds, many, far=20):
    return [some_row(dice, kinds, far) for _ in range(many)]


def some_leaf(dice, kinds):
    column = dice.randrange(len(kinds))
    kind = kinds[column]
    name = dice.choice(["is", "less", "within", "within", "begins", "begins", "all"])
    if name == "all":
        return ALL
    if name == "begins" and kind == "word":
        return ("begins", column, some_word(dice)[:dice.randint(0, 3)])
    if name == "within":
        return ("within", column, *sorted([some_value(dice, kind), some_value(dice, kind)]))
    return (dice.choice(["is", "less"]), column, some_value(dice, kind))


def some_condition(dice, kinds, deep=3):
    if deep == 0 or dice.random() < 0.4:
        return some_leaf(dice, kinds)
    name = dice.choice(["not", "and", "or"])
    if name == "not":
        return ("not", some_condition(dice, kinds, deep - 1))
    return (name, some_condition(dice, kinds, deep - 1), some_condition(dice, kinds, deep - 1))


def disk_of(blocks):
    """A new disk with these settled blocks."""
    disk = Disk()
    for block, what in enumerate(blocks):
        if what is not None:
            disk.write(block, what)
    disk.settle()
    return disk


def told_by(store):
    """All that a store tells of its rows and heaps."""
    heaps = store.told_heaps()
    marks = [store.marks(heap[0]) for heap in heaps]
    return store.rows(ALL), heaps, marks, store.cells(), store.passed(ALL)


def told_and_free(store):
    return told_by(store), store.free()


def next_of(blocks, kinds, row):
    """The (name, number) that the next put tells, asked of a store on a disk with the same blocks."""
    store = Store(disk_of(blocks), kinds)
    heaps = store.told_heaps()
    if len(heaps) == 12:
        store.drop(ALL)
        store.lay(heaps[0][0], heaps[1][0])
    return store.put([row])


def put_all(store, heaps):
    for rows in heaps:
        store.put(rows)


def new_store(kinds, heaps=()):
    """A store on a disk of its own, with these heaps of rows."""
    store = Store(Disk(), kinds)
    put_all(store, heaps)
    return store
