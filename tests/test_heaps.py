"""Points 12 and 13: rows go, heaps are laid together."""

import random
import unittest

from codecolumns.disk import Disk
from codecolumns.errors import BadCondition, BadHeap, TooMany
from codecolumns.store import Store
from builders import ALL, MANY_KINDS, new_store, put_all, some_condition, some_rows, told_and_free, told_by
from plain import Plain
from refusals import RefusalCase

NONE = ("not", ("all",))


def numbers(*values):
    return [(value,) for value in values]


class DropTest(RefusalCase):
    def test_numbers_are_told_rising(self):
        store = new_store(("number",), [numbers(5, 1, 5), numbers(5), numbers(2, 5)])
        told = store.drop(("is", 0, 5))
        self.assertIs(told.__class__, list)
        self.assertEqual(told, [0, 2, 3, 5])
        self.assertEqual(store.drop(("is", 0, 5)), [])
        self.assertEqual(store.drop(NONE), [])
        self.assertEqual(store.rows(ALL), [(1, (1,)), (4, (2,))])
        self.assertEqual(store.drop(ALL), [1, 4])
        self.assertEqual(store.drop(ALL), [])

    def test_numbers_are_told_rising_though_heaps_are_interleaved(self):
        store = new_store(("number",), [numbers(1, 2), numbers(3, 4), numbers(5, 6), numbers(7)])
        store.lay(0, 2)
        store.lay(1, 3)
        self.assertEqual(store.drop(("less", 0, 7)), [0, 1, 2, 3, 4, 5])
        self.assertEqual(store.rows(ALL), [(6, (7,))])

    def test_rows_that_have_gone_lie_in_their_heap_until_it_is_laid_together(self):
        store = new_store(("number",), [numbers(1, 2, 3, 4), numbers(5)])
        # ("plain", ..) of four, and their row numbers too.
        self.assertEqual(store.told_heaps(), [(0, 4, 4, 10), (1, 1, 1, 4)])
        store.drop(("within", 0, 2, 3))
        self.assertEqual(store.told_heaps(), [(0, 2, 4, 12), (1, 1, 1, 4)])
        self.assertEqual(store.rows(ALL), [(0, (1,)), (3, (4,)), (4, (5,))])
        self.assertEqual(store.lay(0, 1), 2)
        self.assertEqual(store.told_heaps(), [(2, 3, 3, 8)])
        self.assertEqual(store.rows(ALL), [(0, (1,)), (3, (4,)), (4, (5,))])

    def test_row_numbers_stay(self):
        store = new_store(("number",), [numbers(1, 2, 3), numbers(4, 5, 6)])
        store.drop(("is", 0, 1))
        store.drop(("is", 0, 5))
        store.lay(0, 1)
        self.assertEqual(store.rows(ALL), [(1, (2,)), (2, (3,)), (3, (4,)), (5, (6,))])
        self.assertEqual(store.put(numbers(7)), (3, 6))

    def test_heaps_of_which_all_rows_have_gone(self):
        store = new_store(("number",), [numbers(1, 2), numbers(3)])
        self.assertEqual(store.drop(("less", 0, 3)), [0, 1])
        self.assertEqual(store.told_heaps(), [(0, 0, 2, 8), (1, 1, 1, 4)])
        self.assertEqual(store.lay(1, 0), 2)
        self.assertEqual(store.told_heaps(), [(2, 1, 1, 4)])

    def test_of_the_empty_store(self):
        store = new_store(("number",))
        self.assertEqual(store.drop(ALL), [])
        self.assertEqual(store.tidy(), [])
        self.assertEqual(store.told_heaps(), [])
        self.assertEqual(store.cells(), 0)


class LayTest(RefusalCase):
    def test_the_next_name(self):
        store = new_store(("number",), [numbers(at) for at in range(5)])
        self.assertEqual(store.lay(1, 3), 5)
        self.assertEqual(store.lay(5, 0), 6)
        self.assertEqual([heap[:3] for heap in store.told_heaps()], [(2, 1, 1), (4, 1, 1), (6, 3, 3)])
        self.assertEqual(store.put(numbers(9)), (7, 5))

    def test_rows_by_their_numbers(self):
        store = new_store(("number", "word"), [[(at, "ab"[at % 2])] * 3 for at in range(4)])
        store.lay(0, 2)
        store.lay(3, 1)
        kept = store.rows(ALL)
        # Of 0 to 2 and 6 to 8, and of 3 to 5 and 9 to 11.
        self.assertEqual([row for _, row in kept], [(at // 3, "ab"[at // 3 % 2]) for at in range(12)])
        self.assertEqual(store.lay(5, 4), 6)
        self.assertEqual(store.rows(ALL), kept)
        plain = Plain(("number", "word"))
        plain.take_in(kept)
        self.assertEqual(store.told_heaps()[0][1:], plain.told_heaps()[0][1:])

    def test_whichever_is_handed_in_first(self):
        told = []
        for one, other in ((0, 2), (2, 0)):
            store = new_store(("number", "word"), [[(5, "b"), (6, "a")], [(1, "c")], [(2, "d")]])
            self.assertEqual(store.lay(one, other), 3)
            told.append(told_and_free(store))
        self.assertEqual(told[0], told[1])

    def test_heaps_without_rows(self):
        store = new_store(("number",), [numbers(at) for at in range(4)])
        store.drop(("less", 0, 2))
        self.assertIsNone(store.lay(0, 1))
        self.assertEqual([heap[0] for heap in store.told_heaps()], [2, 3])
        for name in (0, 1):
            self.refused(BadHeap, store.marks, name)
            self.refused(BadHeap, store.lay, name, 2)
        store.drop(ALL)
        self.assertIsNone(store.lay(3, 2))
        self.assertEqual(store.told_heaps(), [])

    def test_heaps_that_there_are_not(self):
        store = new_store(("number",), [numbers(at) for at in range(4)])
        store.lay(0, 1)
        told = told_and_free(store)
        for one, other in [(2, 2), (4, 4), (0, 2), (2, 0), (1, 2), (0, 1), (5, 2), (2, 5), (-1, 2), (2, -1),
                           (10 ** 29, 2), (7, 7), (0, 0)]:
            self.refused(BadHeap, store.lay, one, other)
        self.assertEqual(told_and_free(store), told)
        self.assertEqual(store.lay(2, 4), 5)
        self.refused(BadHeap, new_store(("number",)).lay, 0, 1)
        self.refused(BadHeap, new_store(("number",)).lay, 0, 0)

    def test_thirty_two_rows_that_are_there(self):
        store = new_store(("number",), [numbers(*range(32)), numbers(*range(32)), numbers(40)])
        self.refused(TooMany, store.lay, 0, 1)
        self.refused(TooMany, store.lay, 0, 2)
        store.drop(("less", 0, 16))
        self.assertEqual(store.lay(0, 1), 3)
        self.assertEqual([heap[:3] for heap in store.told_heaps()], [(2, 1, 1), (3, 32, 32)])
        self.refused(TooMany, store.lay, 3, 2)
        self.refused(TooMany, store.lay, 2, 3)
        store.drop(("is", 0, 40))
        self.assertEqual(store.lay(3, 2), 4)

    def test_thirty_three_rows_that_are_there(self):
        store = new_store(("number",), [numbers(*range(17)), numbers(*range(16)), numbers(*range(15))])
        told = told_and_free(store)
        self.refused(TooMany, store.lay, 0, 1)
        self.refused(TooMany, store.lay, 1, 0)
        self.assertEqual(told_and_free(store), told)
        self.assertEqual(store.lay(0, 2), 3)
        self.assertEqual(store.count(ALL), 48)

    def test_bad_heaps_go_ahead_of_too_many(self):
        store = new_store(("number",), [numbers(*range(32)), numbers(*range(32))])
        self.refused(BadHeap, store.lay, 0, 0)
        self.refused(BadHeap, store.lay, 0, 2)


class TidyTest(RefusalCase):
    def test_alike_heaps_are_laid_together(self):
        # Of five alike each: 3 and 5 cells; of ten together 3 and 5; of fifteen the same.
        store = new_store(("number",), [numbers(*[7] * 5)] * 3)
        self.assertEqual(store.cells(), 24)
        self.assertEqual(store.tidy(), [(0, 1, 3), (2, 3, 4)])
        self.assertEqual(store.told_heaps(), [(4, 15, 15, 8)])
        self.assertEqual(store.tidy(), [])
        self.assertIs(store.tidy().__class__, list)

    def test_none_have_fewer_cells(self):
        # Far values: as many cells together as by themselves less one for the name.
        store = new_store(("number",), [numbers(*range(32)), numbers(*range(32))])
        told = told_and_free(store)
        self.assertEqual(store.tidy(), [])
        self.assertEqual(told_and_free(store), told)
        self.assertEqual(new_store(("number",), [numbers(1)]).tidy(), [])

    def test_neighbours_follow_one_another_by_their_names(self):
        many = numbers(*range(100, 131))
        store = new_store(("number",), [numbers(*[7] * 5), many, numbers(*[7] * 5), many])
        # The first and the third aren't neighbours, and of the others two have too many rows.
        self.assertEqual(store.tidy(), [])
        store.drop(("within", 0, 100, 130))
        self.assertIsNone(store.lay(1, 3))
        self.assertEqual([heap[0] for heap in store.told_heaps()], [0, 2])
        told = store.tidy()
        self.assertEqual([pair[:2] for pair in told], [(0, 2)])
        self.assertEqual(store.told_heaps(), [(told[0][2], 10, 10, 3 + 9)])

    def test_the_most_less_and_of_several_the_first(self):
        alike, unlike = numbers(*[7] * 6), numbers(3, -900, 77, 5000, 21, -8000)
        store = new_store(("number",), [unlike, alike, alike, alike, alike])
        told = store.tidy()
        self.assertEqual(told[0], (1, 2, 5))
        # The new heap follows the last one: of 3, 4 and 5 it's 3 and 4 again that come first.
        self.assertEqual(told[1], (3, 4, 6))
        self.assertEqual(told[2][:2], (5, 6))

    def test_heaps_whose_rows_have_all_gone(self):
        store = new_store(("number",), [numbers(at) for at in (5, 5, 9, 9)])
        store.drop(ALL)
        told = store.tidy()
        self.assertEqual(told, [(0, 1, None), (2, 3, None)])
        self.assertEqual(store.told_heaps(), [])
        store.put(numbers(3))
        store.drop(ALL)
        self.assertEqual(store.tidy(), [])
        self.assertEqual([heap[1] for heap in store.told_heaps()], [0])

    def test_as_many_less_with_rows_and_without(self):
        # Two heaps of alike ones, 16 cells less together, and two of 8 cells of which all rows have gone.
        some = [numbers(7, 7, 1, 7, 7, 7, 7), numbers(7, 7, 7, 7, 7, 1, 7, 7, 7, 7, 1)]
        none = [numbers(1, 1), numbers(1, 1)]
        for heaps in (some + none, none + some):
            store, plain = new_store(("number",), heaps), Plain(("number",))
            put_all(plain, heaps)
            self.assertEqual(store.drop(("is", 0, 1)), plain.drop(("is", 0, 1)))
            self.assertEqual([plain.less_together(0, 1), plain.less_together(2, 3)], [16, 16])
            self.assertEqual(store.tidy()[0][:2], (0, 1))

    def test_at_most_thirty_two_rows_that_are_there(self):
        store = new_store(("number",), [numbers(*[7] * 17), numbers(*[7] * 16)])
        self.assertEqual(store.tidy(), [])
        store = new_store(("number",), [numbers(*[7] * 17), numbers(*[7] * 15)])
        self.assertEqual(store.tidy(), [(0, 1, 2)])
        store = new_store(("number",), [numbers(1, *[7] * 17), numbers(1, *[7] * 15)])
        store.drop(("is", 0, 1))
        self.assertEqual(store.tidy(), [(0, 1, 2)])
        self.assertEqual(store.told_heaps()[0][:3], (2, 32, 32))

    def test_until_none_have_fewer(self):
        dice = random.Random(11)
        for kinds in MANY_KINDS:
            for far in (1, 5, 9999):
                heaps = [some_rows(dice, kinds, dice.randint(1, 12), far) for _ in range(8)]
                store, plain = new_store(kinds, heaps), Plain(kinds)
                put_all(plain, heaps)
                for _ in range(2):
                    condition = some_condition(dice, kinds, 1)
                    cells = store.cells()
                    if dice.random() < 0.7:
                        self.assertEqual(store.drop(condition), plain.drop(condition))
                        cells = store.cells()
                    rows = store.rows(ALL)
                    told = store.tidy()
                    self.assertEqual(told, plain.tidy())
                    self.assertEqual(told_by(store), told_by(plain))
                    self.assertEqual(store.rows(ALL), rows)
                    self.assertEqual(store.cells() < cells, told != [])


class DeedsTest(RefusalCase):
    """Deeds in a made-up order, against a plain store."""

    def test_against_a_plain_store(self):
        for seed in range(24):
            dice = random.Random(seed)
            kinds = dice.choice(MANY_KINDS)
            far = dice.choice([1, 5, 20, 9999])
            store, plain = new_store(kinds), Plain(kinds)
            for _ in range(40):
                self.do_one(dice, store, plain, far)
                self.assertEqual(store.told_heaps(), plain.told_heaps())
                self.assertEqual(store.rows(ALL), plain.rows(ALL))
                condition = some_condition(dice, kinds)
                self.assertEqual(store.passed(condition), plain.passed(condition))
                self.assertEqual(store.count(condition), plain.count(condition))
            self.assertEqual(told_by(store), told_by(plain))

    def do_one(self, dice, store, plain, far):
        names = sorted(plain.heaps)
        deed = dice.choice(["put"] * 5 + ["drop"] * 3 + ["lay"] * 2 + ["tidy"])
        if deed == "put" and len(names) < 12:
            rows = some_rows(dice, plain.kinds, dice.choice([1, 2, 5, 12, 32]), far)
            self.assertEqual(store.put(rows), plain.put(rows))
        elif deed == "drop":
            condition = some_condition(dice, plain.kinds, 2)
            self.assertEqual(store.drop(condition), plain.drop(condition))
        elif deed == "lay" and len(names) > 1:
            one, other = dice.sample(names, 2)
            if len(plain.heaps[one].there() + plain.heaps[other].there()) > 32:
                self.refused(TooMany, store.lay, one, other)
            else:
                self.assertEqual(store.lay(one, other), plain.lay(one, other))
        elif deed == "tidy":
            self.assertEqual(store.tidy(), plain.tidy())


class RefusedTest(RefusalCase):
    def test_what_is_refused_changes_and_writes_nothing(self):
        disk = Disk()
        store = Store(disk, ("number",))
        put_all(store, [numbers(*range(32)), numbers(*range(32)), numbers(3)])
        told, blocks = told_and_free(store), disk.blocks()
        disk.arm(0, [True] * 5)
        self.refused(BadCondition, store.drop, ("none",))
        self.refused(BadHeap, store.lay, 0, 3)
        self.refused(BadHeap, store.lay, 1, 1)
        self.refused(TooMany, store.lay, 0, 1)
        disk.read(0)
        disk.again()
        self.assertEqual(disk.blocks(), blocks)
        self.assertEqual(told_and_free(store), told)
        self.assertEqual(store.put(numbers(4)), (3, 65))
        self.assertEqual(store.lay(2, 3), 4)


if __name__ == "__main__":
    unittest.main()
