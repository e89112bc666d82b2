"""Point 11, marks, and the heaps that are passed by."""

import itertools
import random
import unittest

from codecolumns.errors import BadHeap
from builders import ALL, MANY_KINDS, new_store, put_all, some_condition, some_rows
from plain import Plain
from refusals import RefusalCase

KINDS = ("number", "word")
NONE = ("not", ("all",))
# One heap: the numbers' marks are (-3, 8), the words' ("ab", "b").
HEAP = [(8, "b"), (-3, "ac"), (2, "ab")]

# Of this heap a condition holds, by marks alone, of none, of all, of some perhaps.
OF_NONE = [
    ("is", 0, -4), ("is", 0, 9), ("is", 1, "aa"), ("is", 1, "ba"), ("is", 1, ""), ("is", 1, "c"),
    ("is", 1, "aazzzz"), ("less", 0, -3), ("less", 0, -9999), ("less", 1, "ab"), ("less", 1, ""),
    ("within", 0, -9999, -4), ("within", 0, 9, 9999), ("within", 1, "", "aazzzz"), ("within", 1, "ba", "zzzzzz"),
    ("begins", 1, "aa"), ("begins", 1, "ba"), ("begins", 1, "c"), ("begins", 1, "aazzzz"),
]
OF_ALL = [
    ("all",), ("less", 0, 9), ("less", 0, 9999), ("less", 1, "ba"), ("less", 1, "c"), ("within", 0, -3, 8),
    ("within", 0, -9999, 9999), ("within", 1, "ab", "b"), ("within", 1, "", "zzzzzz"), ("begins", 1, ""),
]
OF_SOME = [
    ("is", 0, -3), ("is", 0, 8), ("is", 0, 5), ("is", 1, "ab"), ("is", 1, "b"), ("is", 1, "abc"),
    ("less", 0, -2), ("less", 0, 8), ("less", 1, "aba"), ("less", 1, "b"), ("within", 0, -9999, -3),
    ("within", 0, 8, 9999), ("within", 0, 3, 4), ("within", 0, -3, 7), ("within", 0, -2, 8),
    ("within", 1, "", "ab"), ("within", 1, "b", "c"), ("within", 1, "ad", "az"), ("begins", 1, "a"),
    ("begins", 1, "b"), ("begins", 1, "ab"), ("begins", 1, "az"), ("begins", 1, "azzzzz"), ("begins", 1, "abcdef"),
]


class MarksTest(RefusalCase):
    def test_of_each_heap(self):
        store = new_store(KINDS, [HEAP, [(5, "zz")], [(-9999, ""), (9999, "zzzzzz")]])
        self.assertEqual(store.marks(0), [(-3, 8), ("ab", "b")])
        self.assertEqual(store.marks(1), [(5, 5), ("zz", "zz")])
        self.assertEqual(store.marks(2), [(-9999, 9999), ("", "zzzzzz")])
        for pair in store.marks(0):
            self.assertIs(pair.__class__, tuple)

    def test_of_the_rows_that_are_there(self):
        store = new_store(KINDS, [HEAP])
        store.drop(("is", 0, 8))
        self.assertEqual(store.marks(0), [(-3, 2), ("ab", "ac")])
        store.drop(("is", 1, "ac"))
        self.assertEqual(store.marks(0), [(2, 2), ("ab", "ab")])
        store.drop(ALL)
        self.assertIsNone(store.marks(0))
        self.assertIsNone(store.marks(0))

    def test_of_heaps_laid_together(self):
        store = new_store(KINDS, [HEAP, [(5, "zz")]])
        store.drop(("is", 0, -3))
        self.assertEqual(store.lay(0, 1), 2)
        self.assertEqual(store.marks(2), [(2, 8), ("ab", "zz")])

    def test_heaps_that_there_are_not(self):
        store = new_store(KINDS)
        for name in (-1, 0, 1, 10 ** 29):
            self.refused(BadHeap, store.marks, name)
        put_all(store, [HEAP, HEAP, HEAP])
        self.refused(BadHeap, store.marks, 3)
        self.refused(BadHeap, store.marks, -1)
        store.lay(0, 2)
        self.refused(BadHeap, store.marks, 0)
        self.refused(BadHeap, store.marks, 2)
        self.assertEqual(store.marks(1), store.marks(3))

    def test_told_marks_may_be_changed(self):
        store = new_store(KINDS, [HEAP])
        told = store.marks(0)
        told[0] = (100, 200)
        told.pop()
        self.assertEqual(store.marks(0), [(-3, 8), ("ab", "b")])
        self.assertEqual(store.passed(("is", 0, 2)), [])
        self.assertEqual(store.passed(("is", 0, 150)), [0])


class PassedTest(RefusalCase):
    def passed(self, condition, store):
        """Whether the one heap of the store is passed by."""
        told = store.passed(condition)
        self.assertIn(told, ([], [0]), condition)
        return told == [0]

    def test_at_the_edges_of_the_marks(self):
        store = new_store(KINDS, [HEAP])
        for condition in OF_NONE:
            self.assertTrue(self.passed(condition, store), condition)
            self.assertFalse(self.passed(("not", condition), store), condition)
        for condition in OF_ALL:
            self.assertFalse(self.passed(condition, store), condition)
            self.assertTrue(self.passed(("not", condition), store), condition)
        for condition in OF_SOME:
            self.assertFalse(self.passed(condition, store), condition)
            self.assertFalse(self.passed(("not", condition), store), condition)
            self.assertFalse(self.passed(("not", ("not", condition)), store), condition)

    def test_a_heap_of_one_value(self):
        store = new_store(KINDS, [[(5, "ab")] * 3])
        of_all = [("is", 0, 5), ("is", 1, "ab"), ("within", 0, 5, 5), ("begins", 1, "ab"), ("begins", 1, "a"),
                  ("less", 0, 6), ("less", 1, "aba"), ("within", 1, "a", "ab")]
        for condition in of_all:
            self.assertFalse(self.passed(condition, store), condition)
            self.assertTrue(self.passed(("not", condition), store), condition)
        for condition in [("begins", 1, "aba"), ("begins", 1, "b"), ("is", 0, 4), ("less", 0, 5), ("less", 1, "ab")]:
            self.assertTrue(self.passed(condition, store), condition)
            self.assertFalse(self.passed(("not", condition), store), condition)

    def test_and_and_or_of_all_pairs(self):
        store = new_store(KINDS, [HEAP])
        sorts = [("none", OF_NONE[0]), ("none", OF_NONE[-1]), ("all", OF_ALL[0]), ("all", OF_ALL[5]),
                 ("some", OF_SOME[2]), ("some", OF_SOME[-2])]
        for (one, first), (other, second) in itertools.product(sorts, repeat=2):
            both, either = ("and", first, second), ("or", first, second)
            self.assertEqual(self.passed(both, store), "none" in (one, other))
            self.assertEqual(self.passed(("not", both), store), one == "all" and other == "all")
            self.assertEqual(self.passed(either, store), one == "none" and other == "none")
            self.assertEqual(self.passed(("not", either), store), "all" in (one, other))

    def test_by_marks_alone(self):
        # No row is wanted, but the marks don't show it.
        store = new_store(KINDS, [HEAP])
        for condition in [("is", 0, 5), ("and", ("is", 0, 8), ("is", 0, -3)), ("begins", 1, "az"),
                          ("and", ("less", 0, 0), ("not", ("less", 0, 0)))]:
            self.assertEqual(store.count(condition), 0)
            self.assertEqual(store.passed(condition), [])
        # All rows are wanted, but the marks don't show it.
        for condition in [("or", ("is", 0, 8), ("less", 0, 8)), ("not", ("is", 0, 5))]:
            self.assertEqual(store.count(condition), 3)
            self.assertEqual(store.passed(("not", condition)), [])

    def test_begins_at_the_edges_of_its_range(self):
        for low, high, text, passed in [
            ("aa", "aa", "ab", True), ("aazzzz", "aazzzz", "ab", True), ("ab", "ab", "ab", False),
            ("a", "a", "ab", True), ("abzzzz", "abzzzz", "ab", False), ("ac", "ad", "ab", True),
            ("a", "ab", "ab", False), ("a", "aazzzz", "ab", True), ("abzzzz", "b", "ab", False),
            ("a", "b", "ab", False), ("", "", "", False), ("zzzzzz", "zzzzzz", "", False),
            ("", "", "a", True), ("abcdef", "abcdef", "abcdef", False), ("abcdee", "abcdee", "abcdef", True),
            ("abcdeg", "abcdeg", "abcdef", True), ("abcdee", "abcdeg", "abcdef", False),
        ]:
            store = new_store(("word",), [[(high,), (low,)]])
            self.assertEqual(self.passed(("begins", 0, text), store), passed, (low, high, text))
        for low, high, of_all in [("ab", "abzzzz", True), ("ab", "ac", False), ("aazzzz", "abb", False),
                                  ("abc", "abd", True)]:
            store = new_store(("word",), [[(high,), (low,)]])
            self.assertEqual(self.passed(("not", ("begins", 0, "ab")), store), of_all, (low, high))

    def test_heaps_without_marks_are_passed_always(self):
        store = new_store(KINDS, [HEAP, [(9, "a")], HEAP])
        store.drop(("is", 0, 9))
        for condition in (ALL, ("not", ("not", ALL)), ("is", 0, 2), ("not", ("is", 0, 100)),
                          ("or", ALL, NONE), ("begins", 1, "")):
            self.assertEqual(store.passed(condition), [1], condition)
        for condition in (NONE, ("is", 0, 9), ("and", NONE, ALL)):
            self.assertEqual(store.passed(condition), [0, 1, 2], condition)

    def test_names_are_rising(self):
        store = new_store(("number",), [[(at,)] for at in range(12)])
        self.assertEqual(store.passed(("within", 0, 3, 5)), [0, 1, 2, 6, 7, 8, 9, 10, 11])
        self.assertEqual(store.passed(("not", ("within", 0, 3, 5))), [3, 4, 5])
        store.lay(7, 3)
        store.lay(0, 11)
        self.assertEqual(store.passed(("is", 0, 5)), [1, 2, 4, 6, 8, 9, 10])
        self.assertEqual(store.passed(ALL), [])
        self.assertEqual(store.passed(NONE), [1, 2, 4, 5, 6, 8, 9, 10, 12, 13])

    def test_made_up_heaps_against_plain_ones(self):
        dice = random.Random(9)
        for kinds in MANY_KINDS * 3:
            heaps = [some_rows(dice, kinds, dice.randint(1, 4), 12) for _ in range(8)]
            store, plain = new_store(kinds, heaps), Plain(kinds)
            put_all(plain, heaps)
            dropped = some_condition(dice, kinds, 1)
            self.assertEqual(store.drop(dropped), plain.drop(dropped))
            names = [heap[0] for heap in store.told_heaps()]
            self.assertEqual([store.marks(name) for name in names], [plain.marks(name) for name in names])
            for _ in range(60):
                condition = some_condition(dice, kinds)
                self.assertEqual(store.passed(condition), plain.passed(condition), condition)

    def test_nothing_wanted_lies_in_a_heap_that_is_passed_by(self):
        dice = random.Random(10)
        for kinds in MANY_KINDS * 3:
            # The first column tells which heap a row is of.
            kinds = ("number",) + kinds[:3]
            heaps = []
            for name in range(6):
                heaps.append([(name, *row) for row in some_rows(dice, kinds[1:], 3, 12)])
            store = new_store(kinds, heaps)
            for _ in range(60):
                condition = some_condition(dice, kinds)
                passed = store.passed(condition)
                for _, row in store.rows(condition):
                    self.assertNotIn(row[0], passed)


if __name__ == "__main__":
    unittest.main()
