"""Points 6 to 8: stores, put, names and numbers, and the cells."""

import random
import unittest

from codecolumns.disk import Disk
from codecolumns.errors import BadKinds, BadRows, TooMany
from codecolumns.store import Store
from builders import ALL, MANY_KINDS, new_store, put_all, some_rows, told_and_free
from plain import Plain
from refusals import RefusalCase

BAD_KINDS = [
    (), ("number",) * 5, ("word",) * 5, ("numbers",), ("Number",), ("",), ("number", "text"),
    ("number", "word", "word", "words"), ("word ",), ("number", "word") * 3,
]
# For columns of a number and a word: rows that are none.
BAD_ROWS = [
    (), (1,), ("a",), (1, "a", 2), (1, "a", "b"), (10000, "a"), (-10000, "a"), (10 ** 29, "a"),
    ("a", "a"), ("", "a"), (1, 1), (1, 0), ("a", 1), (1, "abcdefg"), (1, "A"), (1, "aB"), (1, "a b"),
    (1, " "), (1, "a-"), (1, "a1"), (1, "_"), (1, "{"), (1, "`"), ("1", "a"), (1, "aaaaaaa"),
]
NUMBER_WORD = ("number", "word")


class MakingTest(RefusalCase):
    def test_kinds_of_one_to_four_columns(self):
        for kinds in MANY_KINDS:
            store = Store(Disk(), kinds)
            self.assertEqual(told_and_free(store)[0], ([], [], [], 0, []))
            self.assertIsInstance(store.free(), int)

    def test_kinds_that_are_none(self):
        for kinds in BAD_KINDS:
            disk = Disk()
            disk.arm(0, [True])
            self.refused(BadKinds, Store, disk, kinds)
            self.assertIsNone(disk.read(0))
            self.assertEqual(disk.blocks(), [None] * 600)

    def test_a_store_of_the_disk_of_a_store_has_what_that_one_had(self):
        dice = random.Random(1)
        for kinds in MANY_KINDS:
            disk = Disk()
            store = Store(disk, kinds)
            put_all(store, [some_rows(dice, kinds, many) for many in (3, 32, 1)])
            store.drop(("is", 0, store.rows(ALL)[1][1][0]))
            told = told_and_free(store)
            anew = Store(disk, kinds)
            self.assertEqual(told_and_free(anew), told)
            rows = some_rows(dice, kinds, 2)
            self.assertEqual(anew.put(rows), (3, 36))
            self.assertEqual(Store(disk, kinds).put(rows), (4, 38))

    def test_other_kinds_than_those_of_the_store_ahead(self):
        for kinds in MANY_KINDS:
            for put in (False, True):
                disk = Disk()
                store = Store(disk, kinds)
                if put:
                    store.put([tuple(5 if kind == "number" else "a" for kind in kinds)])
                told, blocks = told_and_free(store), disk.blocks()
                disk.arm(0, [True])
                for other in MANY_KINDS + BAD_KINDS:
                    if other != kinds:
                        self.refused(BadKinds, Store, disk, other)
                self.assertEqual(disk.blocks(), blocks)
                disk.read(0)
                disk.arm(100, [])
                # What is refused changes nothing: the store ahead goes on.
                self.assertEqual(told_and_free(store), told)
                row = tuple(6 if kind == "number" else "b" for kind in kinds)
                self.assertEqual(store.put([row])[1], int(put))


class PutTest(RefusalCase):
    def test_names_and_numbers_from_nought(self):
        store = new_store(NUMBER_WORD)
        self.assertEqual(store.put([(5, "a"), (6, "b"), (5, "")]), (0, 0))
        told = store.put([(-9999, "zzzzzz")])
        self.assertIs(told.__class__, tuple)
        self.assertEqual(told, (1, 3))
        self.assertEqual(store.put([(9999, "abcdef")] * 32), (2, 4))
        self.assertEqual(store.put([(0, "")]), (3, 36))
        self.assertEqual(store.rows(("less", 0, 9999)),
                         [(0, (5, "a")), (1, (6, "b")), (2, (5, "")), (3, (-9999, "zzzzzz")), (36, (0, ""))])

    def test_names_and_numbers_go_on_over_heaps_that_are_no_more(self):
        store = new_store(("number",))
        put_all(store, [[(1,), (2,)], [(3,)], [(4,), (5,), (6,)]])
        store.drop(("less", 0, 4))
        self.assertIsNone(store.lay(0, 1))
        name, number = store.put([(7,)])
        self.assertEqual(number, 6)
        self.assertGreaterEqual(name, 3)
        self.assertEqual(store.lay(2, name), name + 1)
        self.assertEqual(store.put([(8,)]), (name + 2, 7))
        store.drop(ALL)
        self.assertIsNone(store.lay(name + 1, name + 2))
        self.assertEqual(store.told_heaps(), [])
        later, number = store.put([(9,)])
        self.assertGreaterEqual(later, name + 3)
        self.assertEqual(number, 8)

    def test_rows_come_back_as_they_were(self):
        dice = random.Random(2)
        for kinds in MANY_KINDS:
            for far in (1, 20, 9999):
                heaps = [some_rows(dice, kinds, many, far) for many in (1, 2, 31, 32)]
                store = new_store(kinds, heaps)
                told = store.rows(ALL)
                self.assertEqual(told, list(enumerate(sum(heaps, []))))
                for number, row in told:
                    self.assertIs(number.__class__, int)
                    self.assertIs(row.__class__, tuple)

    def test_rows_that_are_none(self):
        store = new_store(NUMBER_WORD, [[(1, "a")]])
        for row in BAD_ROWS:
            self.refused_at(0, BadRows, store.put, [row])
            self.refused_at(0, BadRows, store.put, [row, (1, "a"), row])
            self.refused_at(2, BadRows, store.put, [(1, "a"), (2, "b"), row, (), row])
            self.refused_at(31, BadRows, store.put, [(1, "a")] * 31 + [row])
            self.refused_at(31, BadRows, store.put, [(1, "a")] * 31 + [row] * 9)
        self.assertEqual(store.put([(2, "b")]), (1, 1))
        self.assertEqual(store.rows(ALL), [(0, (1, "a")), (1, (2, "b"))])

    def test_no_rows_and_a_thirty_third(self):
        store = new_store(NUMBER_WORD)
        self.refused_at(0, BadRows, store.put, [])
        self.refused_at(32, BadRows, store.put, [(1, "a")] * 33)
        self.refused_at(32, BadRows, store.put, [(1, "a")] * 50)
        self.refused_at(32, BadRows, store.put, [(1, "a")] * 32 + [()])
        self.assertEqual(store.put([(1, "a")] * 32), (0, 0))

    def test_rows_of_other_kinds(self):
        for kinds in MANY_KINDS:
            store = new_store(kinds)
            good = tuple(1 if kind == "number" else "a" for kind in kinds)
            for at, kind in enumerate(kinds):
                other = "a" if kind == "number" else 1
                bad = good[:at] + (other,) + good[at + 1:]
                self.refused_at(1, BadRows, store.put, [good, bad])
            self.refused_at(1, BadRows, store.put, [good, good[1:]])
            self.refused_at(1, BadRows, store.put, [good, good + good[:1]])
            self.assertEqual(store.put([good]), (0, 0))

    def test_twelve_heaps(self):
        store = new_store(("number",), [[(at,)] for at in range(12)])
        self.refused(TooMany, store.put, [(12,)])
        self.refused(TooMany, store.put, [(12,)] * 32)
        self.assertEqual(store.count(ALL), 12)
        # Heaps whose rows have all gone are heaps still.
        store.drop(ALL)
        self.refused(TooMany, store.put, [(12,)])
        store.lay(3, 8)
        # Both are no more.
        self.assertEqual([store.put([(12,)])[1], store.put([(13,)])[1]], [12, 13])
        self.refused(TooMany, store.put, [(14,)])
        self.assertEqual(store.rows(ALL), [(12, (12,)), (13, (13,))])

    def test_bad_rows_go_ahead_of_too_many(self):
        store = new_store(("number",), [[(at,)] for at in range(12)])
        self.refused_at(0, BadRows, store.put, [])
        self.refused_at(1, BadRows, store.put, [(1,), ("a",)])
        self.refused_at(32, BadRows, store.put, [(1,)] * 33)

    def test_ten_thousand_rows(self):
        store = new_store(("number",))
        come = 0
        while come < 9984:
            one, first = store.put([(come % 9000,)] * 32)
            self.assertEqual(first, come)
            other, _ = store.put([(-1,)] * 32)
            come += 64
            store.drop(ALL)
            store.lay(one, other)
        store.put([(1,), (2,)])
        # Fourteen more may come.
        self.refused(TooMany, store.put, [(3,)] * 15)
        self.refused(TooMany, store.put, [(3,)] * 32)
        self.refused_at(14, BadRows, store.put, [(3,)] * 14 + [("a",)])
        self.assertEqual(store.put([(3,)] * 14)[1], 9986)
        self.assertEqual(store.rows(ALL)[-1], (9999, (3,)))
        self.assertEqual(store.count(ALL), 16)
        self.refused(TooMany, store.put, [(4,)])
        self.assertEqual(store.rows(("is", 0, 1)), [(9984, (1,))])
        # Other deeds go on.
        names = [heap[0] for heap in store.told_heaps()]
        self.assertIsNotNone(store.lay(*names))
        self.assertEqual([number for number, _ in store.rows(ALL)], list(range(9984, 10000)))
        self.refused(TooMany, store.put, [(4,)])


class CellsTest(RefusalCase):
    def told(self, kinds, rows, cells):
        store = new_store(kinds, [rows])
        self.assertEqual(store.told_heaps(), [(0, len(rows), len(rows), cells)])
        self.assertEqual(store.cells(), cells)
        return store

    def test_heaps_counted_by_hand(self):
        # A row: the number ("plain", (5,)), and its row number ("plain", (0,)).
        self.told(("number",), [(5,)], 2 + 2)
        # A word is a cell, and its place a number.
        self.told(("word",), [("a",)], 1 + 2 + 2)
        self.told(("word",), [("",)], 1 + 2 + 2)
        # Five alike ("one", 5, 7); row numbers ("near", 5, 0, 4, (..,)).
        self.told(("number",), [(7,)] * 5, 3 + 5)
        self.told(("word",), [("abc",)] * 5, 1 + 3 + 5)
        # Thirty-two: row numbers ("steps", 32, 0, 1, 0, ()).
        self.told(("number",), [(at * at * 7,) for at in range(32)], 33 + 5)
        self.told(("word",), [("b",), ("a",)] * 16, 2 + 7 + 5)
        # Places among the unlike words, rising, are steps here, however the words lie apart.
        words = sorted(["", "b", "ba", "zz", "m", "mmm", "c", "x"])
        self.told(("word",), [(word,) for word in words], 8 + 5 + 5)
        self.told(("word", "number"), [(word, 0) for word in words], 8 + 5 + 3 + 5)
        # A cut in two: ("plain", (9000,)) and ("one", 31, 4).
        self.told(("number", "number"), [(9000, 1)] + [(4, 1)] * 31, 5 + 3 + 5)

    def test_two_cells_for_each_stretch_of_places_whose_rows_have_gone(self):
        store = self.told(("number",), [(at,) for at in range(10)], 5 + 5)
        for value, cells in [(4, 12), (6, 14), (5, 12), (0, 14), (9, 16), (2, 18), (1, 16), (3, 14)]:
            store.drop(("is", 0, value))
            self.assertEqual(store.cells(), cells, value)
        store.drop(ALL)
        self.assertEqual(store.told_heaps(), [(0, 0, 10, 12)])

    def test_words_of_rows_that_have_gone_lie_there_still(self):
        store = self.told(("word",), [("a",), ("b",), ("c",)], 3 + 4 + 4)
        store.drop(("is", 0, "b"))
        self.assertEqual(store.told_heaps(), [(0, 2, 3, 13)])

    def test_row_numbers_further_on_are_a_column_too(self):
        store = new_store(("number",), [[(3,)] * 32] * 2)
        self.assertEqual(store.told_heaps(), [(0, 32, 32, 8), (1, 32, 32, 8)])
        store = new_store(("number",), [[(3,)] * 8, [(4,)] * 24, [(3,)] * 12])
        store.drop(("is", 0, 4))
        self.assertEqual(store.told_heaps(), [(0, 8, 8, 8), (1, 0, 24, 10), (2, 12, 12, 8)])
        # ("one", 20, 3), and the row numbers: steps of 1 from 0, and steps of 1 from 32.
        self.assertEqual(store.lay(0, 2), 3)
        self.assertEqual(store.told_heaps(), [(1, 0, 24, 10), (3, 20, 20, 13)])

    def test_heaps_of_all_kinds_against_plain_ones(self):
        dice = random.Random(3)
        for kinds in MANY_KINDS:
            for far in (0, 3, 100, 9999):
                heaps = [some_rows(dice, kinds, dice.randint(1, 32), far) for _ in range(4)]
                store, plain = new_store(kinds, heaps), Plain(kinds)
                put_all(plain, heaps)
                self.assertEqual(store.told_heaps(), plain.told_heaps())
                self.assertEqual(store.cells(), plain.cells())


class NothingIsKeptTest(RefusalCase):
    def test_rows_that_were_handed_in_may_be_changed_later(self):
        store = new_store(NUMBER_WORD)
        rows = [(1, "a"), (2, "b")]
        store.put(rows)
        self.assertEqual(rows, [(1, "a"), (2, "b")])
        rows[0] = (3, "c")
        rows.append((4, "d"))
        self.assertEqual(store.rows(ALL), [(0, (1, "a")), (1, (2, "b"))])
        rows.append((5,))
        kept = list(rows)
        self.refused_at(3, BadRows, store.put, rows)
        self.assertEqual(rows, kept)

    def test_told_lists_may_be_changed(self):
        store = new_store(NUMBER_WORD, [[(1, "a"), (2, "b")], [(1, "c")]])
        asked = [
            lambda: store.rows(ALL), lambda: store.told_heaps(), lambda: store.marks(0),
            lambda: store.passed(("is", 0, 2)), lambda: store.unlike(0, ALL),
            lambda: store.groups(1, 0, ALL), lambda: store.first(0, 2, ALL),
        ]
        for ask in asked:
            told = ask()
            self.assertIs(told.__class__, list)
            kept = list(told)
            told[0] = None
            told.append(5)
            self.assertEqual(ask(), kept)
        dropped = store.drop(("is", 0, 2))
        dropped[0] = 0
        self.assertEqual(store.rows(ALL), [(0, (1, "a")), (2, (1, "c"))])
        laid = store.tidy()
        laid.append(laid[:])
        self.assertEqual(store.tidy(), [])

    def test_two_stores_on_two_disks_are_apart(self):
        one, other = new_store(("number",), [[(1,)]]), new_store(("number",), [[(2,)], [(3,)]])
        told = told_and_free(other)
        one.put([(4,), (5,)])
        one.drop(("is", 0, 1))
        one.lay(0, 1)
        self.assertEqual(told_and_free(other), told)
        told = told_and_free(one)
        other.drop(ALL)
        other.lay(0, 1)
        self.assertEqual(told_and_free(one), told)
        self.assertEqual(one.put([(6,)]), (3, 3))
        self.assertEqual(other.put([(7,)])[1], 2)


if __name__ == "__main__":
    unittest.main()
