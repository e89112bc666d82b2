"""Point 9, the conditions, by all that is handed one."""

import random
import unittest

from codecolumns.errors import BadCondition
from codecolumns.notes import written
from builders import ALL, MANY_KINDS, new_store, put_all, some_condition, some_rows, told_and_free
from plain import Plain
from refusals import RefusalCase

# A number, a word and another number.
KINDS = ("number", "word", "number")
ROWS = [(-5, "", 9999), (0, "a", 0), (5, "ab", -9999), (5, "abz", 3), (6, "ac", 3), (7, "b", 4), (9, "abcdef", 4)]

# Conditions, and the first columns' values of the rows of which they hold.
HELD = [
    (("all",), [-5, 0, 5, 5, 6, 7, 9]),
    (("is", 0, 5), [5, 5]),
    (("is", 0, 4), []),
    (("is", 1, ""), [-5]),
    (("is", 1, "ab"), [5]),
    (("is", 2, -9999), [5]),
    (("less", 0, 5), [-5, 0]),
    (("less", 0, -5), []),
    (("less", 0, 9999), [-5, 0, 5, 5, 6, 7, 9]),
    (("less", 2, 9999), [0, 5, 5, 6, 7, 9]),
    (("less", 2, -9999), []),
    (("less", 1, "abz"), [-5, 0, 5, 9]),
    (("less", 1, ""), []),
    (("within", 0, 0, 6), [0, 5, 5, 6]),
    (("within", 0, 5, 5), [5, 5]),
    (("within", 0, 1, 4), []),
    (("within", 2, -9999, 9999), [-5, 0, 5, 5, 6, 7, 9]),
    (("within", 1, "ab", "ac"), [5, 5, 6, 9]),
    (("within", 1, "", "a"), [-5, 0]),
    (("begins", 1, ""), [-5, 0, 5, 5, 6, 7, 9]),
    (("begins", 1, "a"), [0, 5, 5, 6, 9]),
    (("begins", 1, "ab"), [5, 5, 9]),
    (("begins", 1, "abcdef"), [9]),
    (("begins", 1, "c"), []),
    (("not", ("all",)), []),
    (("not", ("is", 0, 5)), [-5, 0, 6, 7, 9]),
    (("not", ("not", ("is", 0, 5))), [5, 5]),
    (("and", ("is", 0, 5), ("is", 2, 3)), [5]),
    (("and", ("is", 0, 5), ("is", 2, 4)), []),
    (("or", ("is", 0, 0), ("is", 2, 4)), [0, 7, 9]),
    (("or", ("is", 0, 1), ("is", 2, 5)), []),
    (("and", ("or", ("is", 0, 5), ("is", 0, 6)), ("not", ("begins", 1, "ac"))), [5, 5]),
]

# What is none, wherever it stands within others.
WRONG = [
    (), ("",), ("every",), ("All",), ("all ",), ("ALL",), (0,), (5, 0, 5), ((),), (("all",),), (("is", 0, 5),),
    ("all", 0), ("all", ("all",)), ("all", ""),
    ("is",), ("is", 0), ("is", 0, 5, 5), ("is", 5), ("less",), ("less", 0), ("less", 0, 5, 6),
    ("within",), ("within", 0), ("within", 0, 5), ("within", 0, 5, 6, 7), ("begins",), ("begins", 1),
    ("begins", 1, "a", "b"), ("not",), ("not", ("all",), ("all",)), ("and",), ("and", ("all",)),
    ("and", ("all",), ("all",), ("all",)), ("or",), ("or", ("all",)), ("or", ("all",), ("all",), ("all",)),
    ("is", -1, 5), ("is", 3, 5), ("is", 10 ** 29, 5), ("less", -1, 5), ("less", 3, 5), ("within", -1, 5, 6),
    ("within", 3, 5, 6), ("begins", -1, "a"), ("begins", 3, "a"), ("begins", -2, "a"), ("is", -3, 5),
    ("is", "0", 5), ("is", "", 5), ("is", (0,), 5), ("is", (), 5), ("is", ("all",), 5), ("begins", "b", "a"),
    ("within", "number", 5, 6), ("less", (), 5),
    ("is", 0, "5"), ("is", 0, ""), ("is", 0, "a"), ("is", 0, ()), ("is", 0, (5,)), ("is", 0, ("all",)),
    ("is", 1, 5), ("is", 1, 0), ("is", 1, ()), ("is", 1, ("a",)), ("less", 0, "a"), ("less", 1, 5),
    ("less", 2, ("is", 0, 5)), ("within", 0, "a", "b"), ("within", 0, 5, "b"), ("within", 0, "a", 5),
    ("within", 1, 5, 6), ("within", 1, "a", 6), ("within", 1, 5, "b"), ("within", 1, "a", ()),
    ("begins", 0, "a"), ("begins", 2, ""), ("begins", 0, 5), ("begins", 1, 5), ("begins", 1, ()),
    ("is", 0, 10000), ("is", 0, -10000), ("is", 2, 10 ** 29), ("less", 0, 10000), ("less", 0, -10000),
    ("within", 0, -10000, 5), ("within", 0, 5, 10000), ("is", 1, "abcdefg"), ("is", 1, "A"), ("is", 1, "a b"),
    ("is", 1, "a1"), ("is", 1, "-"), ("less", 1, "abcdefg"), ("less", 1, "aB"), ("within", 1, "a", "abcdefg"),
    ("within", 1, "A", "b"), ("begins", 1, "abcdefg"), ("begins", 1, "A"), ("begins", 1, "="),
    ("not", 5), ("not", "all"), ("not", ""), ("not", ()), ("and", "all", "all"), ("and", ("all",), "all"),
    ("and", 0, ("all",)), ("or", ("all",), 1), ("or", (), ("all",)), ("or", "", ("all",)),
]


def chain(many, inside):
    """A condition within so many others."""
    for _ in range(many):
        inside = ("not", inside)
    return inside


def tree(many):
    """A condition with so many in it, none deep within others."""
    if many == 1:
        return ("all",)
    if many == 2:
        return ("not", ("all",))
    ahead = (many - 1) // 2
    return ("and", tree(ahead), tree(many - 1 - ahead))


def spots(wrong):
    """The wrong one by itself, and at any place within others."""
    yield wrong
    yield ("not", wrong)
    for name in ("and", "or"):
        yield (name, wrong, ("all",))
        yield (name, ("all",), wrong)
        yield (name, ("not", ("all",)), wrong)
        yield (name, ("is", 0, 5), ("not", ("or", ("begins", 1, "a"), wrong)))
    yield chain(6, wrong)


def askers(store):
    """All that is handed a condition, each by itself."""
    return [
        store.count, store.rows, store.passed, store.drop,
        lambda condition: store.total(0, condition),
        lambda condition: store.unlike(1, condition),
        lambda condition: store.ends(1, condition),
        lambda condition: store.groups(1, 2, condition),
        lambda condition: store.first(1, 5, condition),
        lambda condition: written(KINDS, condition),
    ]


class HoldsTest(RefusalCase):
    def test_conditions_gone_through_by_hand(self):
        store = new_store(KINDS, [ROWS])
        split = new_store(KINDS, [[row] for row in ROWS])
        for condition, values in HELD:
            for asked in (store, split):
                self.assertEqual([row[0] for _, row in asked.rows(condition)], values, condition)
                self.assertEqual(asked.count(condition), len(values), condition)

    def test_words_are_in_order_as_texts_are(self):
        words = ["", "a", "aa", "ab", "abz", "abzzzz", "ac", "b", "z", "zzzzzz"]
        store = new_store(("word",), [[(word,) for word in words]])
        for at, word in enumerate(words):
            self.assertEqual(store.count(("less", 0, word)), at)
            self.assertEqual(store.count(("is", 0, word)), 1)
            self.assertEqual(store.count(("within", 0, "", word)), at + 1)
            self.assertEqual([row[0] for _, row in store.rows(("begins", 0, word))],
                             [other for other in words if other[:len(word)] == word])

    def test_made_up_conditions_against_plain_rows(self):
        dice = random.Random(7)
        for kinds in MANY_KINDS:
            heaps = [some_rows(dice, kinds, dice.randint(1, 20)) for _ in range(3)]
            store, plain = new_store(kinds, heaps), Plain(kinds)
            put_all(plain, heaps)
            for _ in range(150):
                condition = some_condition(dice, kinds)
                self.assertEqual(store.rows(condition), plain.rows(condition), condition)

    def test_fifteen_in_one(self):
        store = new_store(KINDS, [ROWS])
        self.assertEqual(store.count(tree(15)), store.count(("not", tree(14))))
        for many in range(1, 16):
            for ask in askers(new_store(KINDS, [ROWS])):
                ask(tree(many))

    def test_sixteen_in_one(self):
        store = new_store(KINDS, [ROWS])
        for ask in askers(store):
            for wrong in (tree(16), tree(17), tree(31), ("not", tree(15)), ("or", tree(7), tree(8))):
                self.refused(BadCondition, ask, wrong)
        self.assertEqual(store.count(ALL), len(ROWS))

    def test_within_seven_others(self):
        store = new_store(KINDS, [ROWS])
        self.assertEqual(store.count(chain(7, ("is", 0, 5))), 5)
        self.assertEqual(store.count(chain(6, ("is", 0, 5))), 2)
        deep = ("is", 0, 5)
        for _ in range(7):
            deep = ("and", deep, ("all",))
        self.assertEqual(store.count(deep), 2)
        for ask in askers(new_store(KINDS, [ROWS])):
            ask(deep)
            ask(chain(7, ("begins", 1, "a")))

    def test_within_eight_others(self):
        store = new_store(KINDS, [ROWS])
        for ask in askers(store):
            for many in (8, 9, 13, 14, 15, 40):
                self.refused(BadCondition, ask, chain(many, ("all",)))
            self.refused(BadCondition, ask, ("or", ("all",), chain(7, ("all",))))
            self.refused(BadCondition, ask, ("and", chain(7, ("is", 0, 5)), ("all",)))
        self.assertEqual(store.count(ALL), len(ROWS))


class WrongTest(RefusalCase):
    def test_what_is_no_condition_in_all_that_is_handed_one(self):
        store = new_store(KINDS, [ROWS, ROWS[:2]])
        told = told_and_free(store)
        for wrong in WRONG:
            for ask in askers(store):
                self.refused(BadCondition, ask, wrong)
        self.assertEqual(told_and_free(store), told)

    def test_at_any_place_within_others(self):
        store = new_store(KINDS, [ROWS])
        for wrong in WRONG:
            for spot in spots(wrong):
                self.refused(BadCondition, store.count, spot)
                self.refused(BadCondition, store.drop, spot)
        self.assertEqual(store.count(ALL), len(ROWS))

    def test_of_an_empty_store(self):
        store = new_store(KINDS)
        for wrong in WRONG:
            for ask in askers(store):
                self.refused(BadCondition, ask, wrong)

    def test_columns_by_the_kinds_of_the_store(self):
        for kinds in MANY_KINDS:
            store = new_store(kinds)
            for column in range(5):
                for value, kind in ((5, "number"), ("a", "word")):
                    for condition in (("is", column, value), ("less", column, value),
                                      ("within", column, value, value)):
                        if column < len(kinds) and kinds[column] == kind:
                            self.assertEqual(store.count(condition), 0)
                        else:
                            self.refused(BadCondition, store.count, condition)
                if column < len(kinds) and kinds[column] == "word":
                    self.assertEqual(store.count(("begins", column, "a")), 0)
                else:
                    self.refused(BadCondition, store.count, ("begins", column, "a"))


if __name__ == "__main__":
    unittest.main()
