"""Point 15: what there is behind a stop, and the blocks that are free."""

import random
import unittest

from codecolumns.disk import Disk
from codecolumns.errors import BadCondition, BadHeap, BadKinds, BadRows, Stopped, TooMany
from codecolumns.store import Store
from builders import ALL, disk_of, next_of, put_all, some_rows, told_and_free
from refusals import RefusalCase

# No picks, all of them, and some.
PICKS = [
    [], [True] * 60, [True, False] * 30, [False, True] * 30, [True], [False] * 2 + [True] * 58, [True] * 2,
    [False] * 4 + [True] * 56,
]
KINDS = ("number", "word", "number")
ONE_KIND = ("number",)
TWELVE = [[(at * 100,), (at,)] for at in range(12)]
ALIKE = [[(7,)] * 6] * 5 + [[(at * 77,) for at in range(20)]] + [[(7,)] * 4] * 3
GONE = ("within", 0, 3, 900)


def made_up(seed, kinds, many):
    """So many heaps of rows, one of them full of far values."""
    dice = random.Random(seed)
    heaps = [some_rows(dice, kinds, dice.randint(1, 9), 9) for _ in range(many - 1)]
    return heaps + [some_rows(dice, kinds, 32, 9999)]


def blocks_of(kinds, heaps, dropped=()):
    """The settled blocks of a store of these heaps, behind the drops of these conditions."""
    disk = Disk()
    store = Store(disk, kinds)
    put_all(store, heaps)
    for condition in dropped:
        store.drop(condition)
    return disk.blocks()


def row_of(kinds):
    return tuple(3 if kind == "number" else "c" for kind in kinds)


def whole(disk, kinds):
    """All that a store made of the disk tells, and the next name and number."""
    store = Store(disk, kinds)
    return told_and_free(store), next_of(disk.blocks(), kinds, row_of(kinds))


def states_of(blocks, kinds, deed):
    """What there is ahead of the deed, and behind each of its steps; and what it tells."""
    disk = disk_of(blocks)
    states = [whole(disk, kinds)]
    told = deed(Store(disk, kinds))
    last = whole(disk, kinds)
    if isinstance(told, list) and told and isinstance(told[0], tuple):
        # Of tidy: the same layings, one by one.
        disk = disk_of(blocks)
        store = Store(disk, kinds)
        for one, other, _ in told[:-1]:
            store.lay(one, other)
            states.append(whole(disk, kinds))
            store = Store(disk, kinds)
    return states + [last], told


# Stores, and what is done on them. Each deed changes its store.
CASES = [
    ("put in an empty one", blocks_of(KINDS, []), KINDS, lambda store: store.put([(1, "a", 2)])),
    ("put", blocks_of(KINDS, made_up(1, KINDS, 4)), KINDS,
     lambda store: store.put(some_rows(random.Random(5), KINDS, 32, 9999))),
    ("put a ninth", blocks_of(ONE_KIND, TWELVE[:8], [GONE]), ONE_KIND, lambda store: store.put([(5,), (6,)])),
    ("put a twelfth", blocks_of(ONE_KIND, TWELVE[:11]), ONE_KIND, lambda store: store.put([(5,)] * 32)),
    ("drop one", blocks_of(KINDS, made_up(2, KINDS, 5)), KINDS, lambda store: store.drop(("begins", 1, "ab"))),
    ("drop of twelve heaps", blocks_of(ONE_KIND, TWELVE), ONE_KIND, lambda store: store.drop(GONE)),
    ("drop all", blocks_of(KINDS, made_up(3, KINDS, 9), [("less", 0, 0)]), KINDS, lambda store: store.drop(ALL)),
    ("lay", blocks_of(KINDS, made_up(4, KINDS, 5)), KINDS, lambda store: store.lay(0, 2)),
    ("lay of twelve", blocks_of(ONE_KIND, TWELVE, [GONE]), ONE_KIND, lambda store: store.lay(11, 3)),
    ("lay without rows", blocks_of(ONE_KIND, TWELVE[:10], [ALL]), ONE_KIND, lambda store: store.lay(4, 9)),
    ("tidy once", blocks_of(ONE_KIND, ALIKE[:2]), ONE_KIND, lambda store: store.tidy()),
    ("tidy nine", blocks_of(ONE_KIND, ALIKE, [("is", 0, 77)]), ONE_KIND, lambda store: store.tidy()),
    ("tidy of all kinds", blocks_of(KINDS, made_up(6, KINDS, 7), [("less", 0, 3)]), KINDS,
     lambda store: store.tidy()),
    ("tidy without rows", blocks_of(ONE_KIND, TWELVE[:6], [ALL]), ONE_KIND, lambda store: store.tidy()),
]


class StoppedDeedTest(RefusalCase):
    def test_stopped_at_every_deed(self):
        for name, blocks, kinds, deed in CASES:
            with self.subTest(name):
                states, told = states_of(blocks, kinds, deed)
                self.assertNotEqual(states[0], states[-1])
                seen = set()
                for picks in PICKS:
                    stops = self.stop_at_each(blocks, kinds, deed, picks, states, told, seen)
                    self.assertGreater(stops, 0)
                # Some stop leaves all, and some leaves nothing, of the deed.
                self.assertIn(0, seen)
                self.assertIn(len(states) - 1, seen)

    def stop_at_each(self, blocks, kinds, deed, picks, states, told, seen):
        """Stop the deed at each write and settle in turn until it is done; how many stops."""
        for deeds in range(2000):
            disk = disk_of(blocks)
            store = Store(disk, kinds)
            disk.arm(deeds, picks)
            try:
                done = deed(store)
            except Stopped:
                self.check_stopped(disk, kinds, states, seen)
            else:
                self.assertEqual(done, told)
                self.assertEqual(told_and_free(store), states[-1][0])
                disk.stop(picks)
                disk.again()
                self.assertEqual(whole(disk, kinds), states[-1])
                return deeds
        self.fail("the deed is never done")

    def check_stopped(self, disk, kinds, states, seen):
        self.refused(Stopped, disk.read, 0)
        self.refused(Stopped, Store, disk, kinds)
        self.refused(Stopped, disk.settle)
        disk.again()
        state = whole(disk, kinds)
        self.assertIn(state, states)
        seen.add(states.index(state))
        # Again, with nothing done between.
        self.assertEqual(whole(disk, kinds), state)
        disk.again()
        self.assertEqual(whole(disk, kinds), state)

    def test_stopped_once_more_as_the_store_is_made_anew(self):
        for name, blocks, kinds, deed in CASES:
            with self.subTest(name):
                states, _ = states_of(blocks, kinds, deed)
                for picks in PICKS[:3]:
                    for later in (PICKS[0], PICKS[1]):
                        self.stop_twice(blocks, kinds, deed, picks, later, states)

    def stop_twice(self, blocks, kinds, deed, picks, later, states):
        for deeds in range(2000):
            disk = disk_of(blocks)
            store = Store(disk, kinds)
            disk.arm(deeds, picks)
            try:
                deed(store)
            except Stopped:
                disk.again()
            else:
                return
            left = disk.blocks()
            state = whole(disk_of(left), kinds)
            for more in range(2000):
                disk = disk_of(left)
                disk.arm(more, later)
                try:
                    anew = Store(disk, kinds)
                except Stopped:
                    disk.again()
                    self.assertEqual(whole(disk, kinds), state)
                else:
                    self.assertEqual(told_and_free(anew), state[0])
                    break
            self.assertIn(state, states)

    def test_the_store_goes_on_behind_a_stop(self):
        for name, blocks, kinds, deed in CASES:
            with self.subTest(name):
                states, _ = states_of(blocks, kinds, deed)
                for picks in PICKS[:3]:
                    for deeds in (0, 1, 2):
                        disk = disk_of(blocks)
                        store = Store(disk, kinds)
                        disk.arm(deeds, picks)
                        try:
                            deed(store)
                        except Stopped:
                            pass
                        disk.again()
                        anew = Store(disk, kinds)
                        if told_and_free(anew) == states[0][0]:
                            deed(anew)
                        while anew.tidy():
                            pass
                        anew.drop(ALL)
                        anew.tidy()
                        told = anew.put([row_of(kinds)])
                        self.assertEqual(anew.rows(ALL), [(told[1], row_of(kinds))])
                        self.assertEqual(told_and_free(Store(disk, kinds)), told_and_free(anew))

    def test_stopped_from_outside_amid_nothing(self):
        for name, blocks, kinds, deed in CASES:
            disk = disk_of(blocks)
            states, _ = states_of(blocks, kinds, deed)
            Store(disk, kinds)
            disk.stop([True] * 60)
            disk.again()
            self.assertEqual(whole(disk, kinds), states[0], name)
            store = Store(disk, kinds)
            disk.stop([])
            self.refused(Stopped, deed, store)
            self.refused(Stopped, Store, disk, kinds)
            disk.again()
            self.assertEqual(whole(disk, kinds), states[0], name)


class StoppedMakingTest(RefusalCase):
    def test_the_first_making(self):
        for picks in PICKS:
            for deeds in range(2000):
                disk = Disk()
                disk.arm(deeds, picks)
                try:
                    Store(disk, KINDS)
                except Stopped:
                    self.refused(Stopped, Store, disk, KINDS)
                    disk.again()
                    store = Store(disk, KINDS)
                    self.assertEqual(told_and_free(store), told_and_free(Store(Disk(), KINDS)))
                    self.assertEqual(store.put([(1, "a", 2)]), (0, 0))
                    self.assertEqual(Store(disk, KINDS).rows(ALL), [(0, (1, "a", 2))])
                else:
                    break

    def test_all_or_nothing_of_the_first_making(self):
        for picks in PICKS:
            for deeds in range(20):
                disk = Disk()
                disk.arm(deeds, picks)
                try:
                    Store(disk, KINDS)
                    done = True
                except Stopped:
                    done = False
                disk.again()
                try:
                    store = Store(disk, ONE_KIND)
                except BadKinds:
                    self.assertEqual(Store(disk, KINDS).told_heaps(), [])
                else:
                    self.assertFalse(done)
                    self.assertEqual(store.put([(1,)]), (0, 0))

    def test_a_later_making(self):
        for name, blocks, kinds, _ in CASES:
            state = whole(disk_of(blocks), kinds)
            for picks in PICKS:
                for deeds in range(2000):
                    disk = disk_of(blocks)
                    disk.arm(deeds, picks)
                    try:
                        store = Store(disk, kinds)
                    except Stopped:
                        disk.again()
                        self.assertEqual(whole(disk, kinds), state, name)
                    else:
                        self.assertEqual(told_and_free(store), state[0], name)
                        break

    def test_of_a_disk_that_has_stopped(self):
        for disk in (Disk(), disk_of(CASES[1][1])):
            disk.stop([])
            self.refused(Stopped, Store, disk, KINDS)
            # The disk is handed in first.
            self.refused(Stopped, Store, disk, ())
            self.refused(Stopped, Store, disk, ONE_KIND)
            disk.again()
            Store(disk, KINDS)


class NothingWrittenTest(RefusalCase):
    def test_what_is_refused_otherwise(self):
        blocks = blocks_of(ONE_KIND, [[(at,)] * 17 for at in range(12)])
        disk = disk_of(blocks)
        store = Store(disk, ONE_KIND)
        told = told_and_free(store)
        disk.arm(0, [True] * 9)
        self.refused(TooMany, store.put, [(1,)])
        self.refused(BadRows, store.put, [])
        self.refused(BadRows, store.put, [("a",)])
        self.refused(BadRows, store.put, [(1,)] * 33)
        self.refused(BadCondition, store.drop, ("is", 1, 5))
        self.refused(BadHeap, store.lay, 0, 12)
        self.refused(BadHeap, store.lay, 3, 3)
        self.refused(TooMany, store.lay, 3, 4)
        self.refused(BadKinds, Store, disk, KINDS)
        self.refused(BadKinds, Store, disk, ())
        disk.read(0)
        self.assertEqual(told_and_free(store), told)
        self.assertEqual(disk.blocks(), blocks)
        # It was armed all along.
        self.refused(Stopped, disk.settle)

    def test_too_many_rows(self):
        disk = Disk()
        store = Store(disk, ONE_KIND)
        for _ in range(156):
            one, other = store.put([(1,)] * 32)[0], store.put([(1,)] * 32)[0]
            store.drop(ALL)
            store.lay(one, other)
        store.put([(1,)] * 16)
        blocks = disk.blocks()
        disk.arm(0, [True])
        self.refused(TooMany, store.put, [(2,)])
        disk.read(0)
        self.assertEqual(disk.blocks(), blocks)
        disk.again()
        anew = Store(disk, ONE_KIND)
        self.refused(TooMany, anew.put, [(2,)])
        self.assertEqual(anew.rows(ALL)[0], (9984, (1,)))


class SettledBlocksTest(RefusalCase):
    def test_a_disk_to_which_the_settled_blocks_were_written(self):
        dice = random.Random(13)
        disk = Disk()
        store = Store(disk, KINDS)
        for _ in range(60):
            copy = disk_of(disk.blocks())
            beside = Store(copy, KINDS)
            self.assertEqual(told_and_free(beside), told_and_free(store))
            heaps = [heap[0] for heap in store.told_heaps()]
            choice = dice.randint(0, 5)
            if choice < 3 and len(heaps) < 12:
                rows = some_rows(dice, KINDS, dice.randint(1, 12), 9)
                self.assertEqual(beside.put(rows), store.put(rows))
            elif choice == 3:
                self.assertEqual(beside.tidy(), store.tidy())
            elif len(heaps) > 8:
                self.assertEqual(beside.drop(("less", 0, 5)), store.drop(("less", 0, 5)))
                self.assertEqual(beside.lay(heaps[0], heaps[5]), store.lay(heaps[0], heaps[5]))
            else:
                condition = ("is", 0, dice.randint(-9, 9))
                self.assertEqual(beside.drop(condition), store.drop(condition))
            self.assertEqual(told_and_free(beside), told_and_free(store))
            self.assertEqual(whole(copy, KINDS), whole(disk, KINDS))

    def test_both_go_on_apart(self):
        blocks = blocks_of(ONE_KIND, TWELVE[:4])
        one, other = disk_of(blocks), disk_of(blocks)
        first, second = Store(one, ONE_KIND), Store(other, ONE_KIND)
        told = told_and_free(second)
        first.drop(ALL)
        first.tidy()
        one.stop([])
        self.assertEqual(told_and_free(second), told)
        self.assertEqual(second.put([(1,)]), (4, 8))

    def test_other_kinds(self):
        blocks = blocks_of(ONE_KIND, TWELVE[:2])
        disk = disk_of(blocks)
        for kinds in (KINDS, ("word",), ("number", "number"), ()):
            self.refused(BadKinds, Store, disk, kinds)
        self.assertEqual(disk.blocks(), blocks)
        self.assertEqual(Store(disk, ONE_KIND).put([(1,)]), (2, 4))


class FreeTest(RefusalCase):
    def test_all_but_some_few_at_first(self):
        for kinds in (ONE_KIND, KINDS, ("word",) * 4):
            store = Store(Disk(), kinds)
            self.assertIs(store.free().__class__, int)
            self.assertLessEqual(store.free(), 600)
            self.assertGreater(store.free(), 560)

    def test_a_disk_takes_all_that_may_come(self):
        dice = random.Random(14)
        kinds = ("word", "number", "word", "number")
        disk = Disk()
        store = Store(disk, kinds)
        letters = "abcdefghijklmnopqrstuvwxyz"
        for _ in range(12):
            rows = []
            for _ in range(32):
                words = ["".join(dice.choice(letters) for _ in range(6)) for _ in range(2)]
                rows.append((words[0], dice.randint(-9999, 9999), words[1], dice.randint(-9999, 9999)))
            store.put(rows)
        self.assertGreaterEqual(store.free(), 0)
        for _ in range(40):
            store.drop(("is", 1, store.first(1, 1, ALL)[0][1][1]))
        self.assertEqual(told_and_free(Store(disk, kinds)), told_and_free(store))
        self.assertLessEqual(store.count(ALL), 12 * 32 - 40)

    def test_fewer_with_heaps_and_as_many_of_a_store_made_anew(self):
        disk = Disk()
        store = Store(disk, KINDS)
        first = store.free()
        free = [first]
        for rows in made_up(7, KINDS, 8):
            store.put(rows)
            free.append(store.free())
            self.assertEqual(Store(disk, KINDS).free(), free[-1])
            store = Store(disk, KINDS)
        self.assertEqual(free, sorted(free, reverse=True))
        self.assertLess(free[-1], first)
        self.assertGreaterEqual(free[-1], 0)

    def test_blocks_become_free_again(self):
        disk = Disk()
        store = Store(disk, KINDS)
        first = store.free()
        put_all(store, made_up(8, KINDS, 6))
        some = store.free()
        self.assertLess(some, first)
        store.drop(ALL)
        store.lay(0, 5)
        self.assertGreater(store.free(), some)
        store.tidy()
        self.assertEqual(store.told_heaps(), [])
        self.assertEqual(store.free(), first)
        self.assertEqual(Store(disk, KINDS).free(), first)

    def test_behind_very_many_deeds(self):
        dice = random.Random(15)
        disk = Disk()
        store = Store(disk, KINDS)
        first = store.free()
        for _ in range(120):
            put_all(store, [some_rows(dice, KINDS, dice.randint(1, 20), 99) for _ in range(3)])
            store.drop(("less", 0, dice.randint(-99, 99)))
            store.tidy()
            self.assertEqual(Store(disk, KINDS).free(), store.free())
            store.drop(ALL)
            names = [heap[0] for heap in store.told_heaps()]
            while len(names) > 1:
                store.lay(names[0], names[1])
                names = names[2:]
            if names:
                store.lay(names[0], store.put([(1, "a", 1)])[0])
                store.drop(ALL)
                store.lay(store.told_heaps()[0][0], self.empty_heap(store))
            self.assertEqual(store.told_heaps(), [])
            self.assertEqual(store.free(), first)

    def empty_heap(self, store):
        """The name of a new heap whose rows have all gone."""
        name = store.put([(1, "a", 1)])[0]
        store.drop(ALL)
        return name

    def test_behind_very_many_stops(self):
        disk = Disk()
        store = Store(disk, KINDS)
        first = store.free()
        rows = made_up(9, KINDS, 2)[1]
        for deeds in range(150):
            disk.arm(deeds % 12, PICKS[deeds % len(PICKS)])
            try:
                store.put(rows)
            except Stopped:
                pass
            disk.again()
            store = Store(disk, KINDS)
            store.drop(ALL)
            names = [heap[0] for heap in store.told_heaps()]
            if len(names) > 1:
                store.lay(names[0], names[1])
            if not store.told_heaps():
                self.assertEqual(store.free(), first)
        self.assertGreater(store.free(), first - 30)


if __name__ == "__main__":
    unittest.main()
