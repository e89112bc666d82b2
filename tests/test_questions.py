"""Point 10, the questions, against plain rows."""

import random
import unittest

from codecolumns.disk import Disk
from codecolumns.errors import BadColumn, BadCondition, BadNumber
from codecolumns.store import Store
from builders import ALL, MANY_KINDS, new_store, put_all, some_condition, some_rows, told_and_free
from plain import Plain
from refusals import RefusalCase

NONE = ("not", ("all",))
KINDS = ("number", "word", "number")
HEAPS = [
    [(3, "b", 10), (1, "a", -10), (3, "a", 5)],
    [(-9999, "", 9999), (2, "b", 0)],
    [(3, "b", 7), (9999, "zz", -9999), (1, "b", 1)],
]


class QuestionsTest(RefusalCase):
    def store(self):
        return new_store(KINDS, HEAPS)

    def test_count(self):
        store = self.store()
        self.assertEqual(store.count(ALL), 8)
        self.assertEqual(store.count(NONE), 0)
        self.assertEqual(store.count(("is", 0, 3)), 3)
        for condition in (ALL, NONE, ("is", 0, 2)):
            self.assertIs(store.count(condition).__class__, int)

    def test_total(self):
        store = self.store()
        self.assertEqual(store.total(0, ALL), 3 + 1 + 3 - 9999 + 2 + 3 + 9999 + 1)
        self.assertEqual(store.total(2, ("is", 1, "b")), 10 + 0 + 7 + 1)
        self.assertEqual(store.total(2, ("is", 0, 3)), 22)
        self.assertEqual(store.total(0, NONE), 0)
        self.assertIs(store.total(0, NONE).__class__, int)

    def test_unlike(self):
        store = self.store()
        self.assertEqual(store.unlike(0, ALL), [(-9999, 1), (1, 2), (2, 1), (3, 3), (9999, 1)])
        self.assertEqual(store.unlike(1, ALL), [("", 1), ("a", 2), ("b", 4), ("zz", 1)])
        self.assertEqual(store.unlike(1, ("is", 0, 3)), [("a", 1), ("b", 2)])
        self.assertEqual(store.unlike(1, NONE), [])

    def test_ends(self):
        store = self.store()
        self.assertEqual(store.ends(0, ALL), (-9999, 9999))
        self.assertEqual(store.ends(1, ALL), ("", "zz"))
        self.assertEqual(store.ends(1, ("is", 0, 3)), ("a", "b"))
        self.assertEqual(store.ends(2, ("is", 0, 2)), (0, 0))
        self.assertIsNone(store.ends(2, NONE))
        self.assertIs(store.ends(0, ALL).__class__, tuple)

    def test_groups(self):
        store = self.store()
        self.assertEqual(store.groups(1, 2, ALL), [("", 1, 9999), ("a", 2, -5), ("b", 4, 18), ("zz", 1, -9999)])
        self.assertEqual(store.groups(0, 2, ("less", 0, 4)), [(-9999, 1, 9999), (1, 2, -9), (2, 1, 0), (3, 3, 22)])
        self.assertEqual(store.groups(1, 0, ("is", 0, 3)), [("a", 1, 3), ("b", 2, 6)])
        self.assertEqual(store.groups(1, 2, NONE), [])

    def test_rows(self):
        store = self.store()
        self.assertEqual(store.rows(ALL), list(enumerate(sum(HEAPS, []))))
        self.assertEqual(store.rows(("is", 1, "a")), [(1, (1, "a", -10)), (2, (3, "a", 5))])
        self.assertEqual(store.rows(NONE), [])

    def test_first(self):
        store = self.store()
        self.assertEqual(store.first(0, 3, ALL), [(3, (-9999, "", 9999)), (1, (1, "a", -10)), (7, (1, "b", 1))])
        self.assertEqual(store.first(1, 4, ("less", 0, 4)),
                         [(3, (-9999, "", 9999)), (1, (1, "a", -10)), (2, (3, "a", 5)), (0, (3, "b", 10))])
        self.assertEqual(store.first(0, 1, ("is", 0, 3)), [(0, (3, "b", 10))])
        self.assertEqual(store.first(0, 0, ALL), [])
        self.assertEqual(store.first(0, 100, ("is", 1, "a")), [(1, (1, "a", -10)), (2, (3, "a", 5))])
        self.assertEqual(store.first(2, 100, NONE), [])

    def test_first_a_hundred(self):
        store = new_store(("number",), [[(at % 7,) for at in range(32)]] * 4)
        told = store.first(0, 100, ALL)
        self.assertEqual(len(told), 100)
        self.assertEqual(told, sorted(store.rows(ALL), key=lambda pair: (pair[1][0], pair[0]))[:100])
        self.assertEqual(store.first(0, 99, ALL), told[:99])

    def test_rows_are_told_by_their_numbers_though_heaps_are_interleaved(self):
        store = new_store(("number",), [[(1,), (2,)], [(3,)], [(4,)]])
        store.lay(0, 2)
        self.assertEqual(store.rows(ALL), [(0, (1,)), (1, (2,)), (2, (3,)), (3, (4,))])
        self.assertEqual(store.first(0, 100, ALL), store.rows(ALL))

    def test_the_empty_store_and_one_whose_rows_have_all_gone(self):
        gone = self.store()
        gone.drop(ALL)
        for store in (new_store(KINDS), gone):
            for condition in (ALL, NONE, ("is", 0, 3), ("begins", 1, "")):
                self.assertEqual(store.count(condition), 0)
                self.assertEqual(store.total(0, condition), 0)
                self.assertEqual(store.unlike(1, condition), [])
                self.assertIsNone(store.ends(1, condition))
                self.assertEqual(store.groups(1, 0, condition), [])
                self.assertEqual(store.rows(condition), [])
                self.assertEqual(store.first(1, 100, condition), [])

    def test_made_up_rows_against_plain_ones(self):
        dice = random.Random(8)
        for kinds in MANY_KINDS * 2:
            heaps = [some_rows(dice, kinds, dice.randint(1, 32), 12) for _ in range(4)]
            store, plain = new_store(kinds, heaps), Plain(kinds)
            put_all(plain, heaps)
            dropped = some_condition(dice, kinds, 1)
            self.assertEqual(store.drop(dropped), plain.drop(dropped))
            for _ in range(30):
                self.same(store, plain, kinds, some_condition(dice, kinds), dice.randint(0, 100))
            for condition in (ALL, NONE):
                self.same(store, plain, kinds, condition, 5)

    def same(self, store, plain, kinds, condition, many):
        self.assertEqual(store.count(condition), plain.count(condition))
        self.assertEqual(store.rows(condition), plain.rows(condition))
        for column, kind in enumerate(kinds):
            self.assertEqual(store.unlike(column, condition), plain.unlike(column, condition))
            self.assertEqual(store.ends(column, condition), plain.ends(column, condition))
            self.assertEqual(store.first(column, many, condition), plain.first(column, many, condition))
            if kind == "number":
                self.assertEqual(store.total(column, condition), plain.total(column, condition))
                for other in range(len(kinds)):
                    if other != column:
                        self.assertEqual(store.groups(other, column, condition),
                                         plain.groups(other, column, condition))


class RefusedTest(RefusalCase):
    def test_columns_that_there_are_not(self):
        for store in (new_store(KINDS, HEAPS), new_store(KINDS)):
            for column in (-1, -3, 3, 4, 10 ** 29):
                self.refused(BadColumn, store.total, column, ALL)
                self.refused(BadColumn, store.unlike, column, ALL)
                self.refused(BadColumn, store.ends, column, ALL)
                self.refused(BadColumn, store.groups, column, 0, ALL)
                self.refused(BadColumn, store.groups, 0, column, ALL)
                self.refused(BadColumn, store.first, column, 5, ALL)

    def test_sums_of_words(self):
        for store in (new_store(KINDS, HEAPS), new_store(KINDS)):
            self.refused(BadColumn, store.total, 1, ALL)
            self.refused(BadColumn, store.groups, 0, 1, ALL)
            self.refused(BadColumn, store.total, 1, NONE)

    def test_many_of_first(self):
        for store in (new_store(KINDS, HEAPS), new_store(KINDS)):
            for many in (-1, -100, 101, 200, 10 ** 29, -10 ** 29):
                self.refused(BadNumber, store.first, 0, many, ALL)

    def test_what_is_handed_in_first_is_refused(self):
        store = new_store(KINDS, HEAPS)
        for wrong in ((), ("none",), ("is", 0, "a")):
            for ask in (store.total, store.unlike, store.ends):
                self.refused(BadColumn, ask, 3, wrong)
                self.refused(BadCondition, ask, 0, wrong)
            self.refused(BadColumn, store.total, 1, wrong)
            self.refused(BadColumn, store.groups, 3, 0, wrong)
            self.refused(BadColumn, store.groups, 0, 1, wrong)
            self.refused(BadCondition, store.groups, 1, 0, wrong)
            self.refused(BadColumn, store.first, -1, 101, wrong)
            self.refused(BadColumn, store.first, 3, 5, wrong)
            self.refused(BadNumber, store.first, 0, 101, wrong)
            self.refused(BadNumber, store.first, 0, -1, wrong)
            self.refused(BadCondition, store.first, 0, 100, wrong)

    def test_questions_write_nothing(self):
        disk = Disk()
        store = Store(disk, KINDS)
        put_all(store, HEAPS)
        blocks = disk.blocks()
        disk.arm(0, [True])
        asked = []
        for _ in range(2):
            asked.append([
                store.count(ALL), store.total(0, ALL), store.unlike(1, ALL), store.ends(0, ALL),
                store.groups(1, 0, ALL), store.rows(ALL), store.first(0, 5, ALL), store.marks(1),
                store.passed(("is", 0, 3)), told_and_free(store),
            ])
            self.refused(BadColumn, store.total, 1, ALL)
            self.refused(BadNumber, store.first, 0, 101, ALL)
            self.refused(BadCondition, store.count, ())
        self.assertEqual(asked[0], asked[1])
        disk.read(0)
        disk.again()
        self.assertEqual(disk.blocks(), blocks)


if __name__ == "__main__":
    unittest.main()
