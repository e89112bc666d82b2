"""Point 14, the disk, and point 1 as far as codecolumns.disk goes."""

import itertools
import unittest

from codecolumns.disk import Disk
from codecolumns.errors import BadBlock, Stopped
from refusals import RefusalCase

# What a block takes, and what weighs too much for it.
FORTY = [
    tuple(range(40)), ("word",) * 40, (None,) * 40, (True, False) * 20,
    ((1, "a"), (None, True)) * 10, (((((1,) * 40,),),),), ((), (), (1,) * 40, ((), ())),
    ((1, (2, (3, ("x", None, (True,) * 30)))), 1, 2, 3, 4, 5), ("a long text with blanks" * 20,) * 40,
]
LIGHT = [(), ((), ((), ())), 5, -10 ** 29, "", "text", None, True, False, (0,), ((),) * 60]
FORTY_ONE = [
    tuple(range(41)), ("word",) * 41, (None,) * 41, (True,) * 41, ((1, "a"), (None, True)) * 10 + ("",),
    (((((1,) * 41,),),),), ((1,) * 20, (2,) * 21), ((), (1,) * 41), (0, ((1,) * 20, ("a",) * 20)),
    tuple(range(60)), ((False,) * 10,) * 10,
]
WRONG_BLOCKS = [-1, -600, 600, 601, 10 ** 29, -10 ** 29]


def of_blocks(pairs):
    """All blocks of a disk with these in it."""
    told = [None] * 600
    for block, what in pairs:
        told[block] = what
    return told


class RunningTest(RefusalCase):
    def test_blocks_are_none_at_first(self):
        disk = Disk()
        self.assertEqual(disk.blocks(), [None] * 600)
        self.assertIs(disk.blocks().__class__, list)
        for block in (0, 1, 300, 599):
            self.assertIsNone(disk.read(block))

    def test_read_tells_what_was_written_last(self):
        disk = Disk()
        self.assertIsNone(disk.write(3, (1, "a")))
        self.assertEqual(disk.read(3), (1, "a"))
        disk.write(3, (2,))
        disk.write(599, "x")
        disk.write(0, 7)
        self.assertEqual([disk.read(3), disk.read(599), disk.read(0)], [(2,), "x", 7])
        self.assertIsNone(disk.settle())
        self.assertEqual([disk.read(3), disk.read(599), disk.read(0)], [(2,), "x", 7])
        disk.write(3, None)
        self.assertIsNone(disk.read(3))
        self.assertIsNone(disk.read(4))

    def test_blocks_are_told_as_they_are_settled(self):
        disk = Disk()
        disk.write(3, (1,))
        self.assertEqual(disk.blocks(), [None] * 600)
        disk.settle()
        disk.write(3, (2,))
        disk.write(4, (3,))
        self.assertEqual(disk.blocks(), of_blocks([(3, (1,))]))
        disk.settle()
        self.assertEqual(disk.blocks(), of_blocks([(3, (2,)), (4, (3,))]))

    def test_what_weighs_forty_is_taken(self):
        for what in FORTY + LIGHT:
            disk = Disk()
            disk.write(5, what)
            self.assertEqual(disk.read(5), what)
            disk.settle()
            self.assertEqual(disk.blocks(), of_blocks([(5, what)]))

    def test_what_lies_deep_is_weighed(self):
        what, heavy = (1,) * 40, (1,) * 41
        for _ in range(100):
            what, heavy = (what,), (heavy,)
        disk = Disk()
        disk.write(0, what)
        self.assertEqual(disk.read(0), what)
        self.refused(BadBlock, disk.write, 1, heavy)
        self.assertIsNone(disk.read(1))

    def test_what_weighs_more_is_refused(self):
        disk = Disk()
        disk.write(5, (1,))
        for what in FORTY_ONE:
            self.refused(BadBlock, disk.write, 5, what)
        self.assertEqual(disk.read(5), (1,))
        disk.settle()
        self.assertEqual(disk.blocks(), of_blocks([(5, (1,))]))

    def test_blocks_that_there_are_not(self):
        disk = Disk()
        for block in WRONG_BLOCKS:
            self.refused(BadBlock, disk.write, block, (1,))
            self.refused(BadBlock, disk.write, block, (1,) * 41)
            self.refused(BadBlock, disk.read, block)
        disk.settle()
        self.assertEqual(disk.blocks(), [None] * 600)

    def test_again_lets_go_what_is_not_settled(self):
        disk = Disk()
        disk.write(1, "a")
        disk.settle()
        disk.write(1, "b")
        disk.write(2, "c")
        self.assertIsNone(disk.again())
        self.assertEqual([disk.read(1), disk.read(2)], ["a", None])
        disk.settle()
        self.assertEqual(disk.blocks(), of_blocks([(1, "a")]))

    def test_what_was_let_go_is_not_picked_later(self):
        disk = Disk()
        disk.write(1, "a")
        disk.write(2, "b")
        disk.again()
        disk.write(3, "c")
        disk.write(4, "d")
        disk.stop([False, True])
        self.assertEqual(disk.blocks(), of_blocks([(4, "d")]))
        disk.again()
        disk.write(5, "e")
        disk.stop([True] * 5)
        disk.again()
        self.assertEqual(disk.blocks(), of_blocks([(4, "d"), (5, "e")]))

    def test_again_of_a_running_disk_leaves_nothing_armed(self):
        disk = Disk()
        disk.arm(0, [])
        disk.again()
        disk.write(1, "a")
        disk.settle()
        self.assertEqual(disk.read(1), "a")


class StoppingTest(RefusalCase):
    def refused_all(self, disk):
        self.refused(Stopped, disk.write, 0, (9,))
        self.refused(Stopped, disk.settle)
        self.refused(Stopped, disk.read, 0)

    def test_stop_stops_at_once(self):
        disk = Disk()
        disk.write(1, "a")
        disk.settle()
        disk.write(2, "b")
        self.assertIsNone(disk.stop([]))
        self.refused_all(disk)
        self.assertEqual(disk.blocks(), of_blocks([(1, "a")]))
        disk.again()
        self.assertEqual([disk.read(0), disk.read(1), disk.read(2)], [None, "a", None])

    def test_picks_say_what_stays_in_turn(self):
        writes = [(1, "a"), (2, "b"), (1, "c"), (3, "d"), (1, "e")]
        for many in range(7):
            for picks in itertools.product([True, False], repeat=many):
                disk = Disk()
                disk.write(1, "old")
                disk.write(9, "kept")
                disk.settle()
                for block, what in writes:
                    disk.write(block, what)
                disk.stop(list(picks))
                stays = [(1, "old"), (9, "kept")]
                stays += [pair for pair, pick in zip(writes, picks) if pick]
                self.assertEqual(disk.blocks(), of_blocks(stays), picks)
                disk.again()
                self.assertEqual(disk.blocks(), of_blocks(stays), picks)
                self.assertEqual([disk.read(block) for block in range(600)], of_blocks(stays))

    def test_what_was_picked_stays_for_good(self):
        disk = Disk()
        disk.write(1, "a")
        disk.write(2, "b")
        disk.stop([False, True])
        disk.again()
        disk.stop([])
        disk.again()
        self.assertEqual(disk.blocks(), of_blocks([(2, "b")]))

    def test_picks_go_by_the_writes_that_are_not_settled(self):
        disk = Disk()
        disk.write(1, "a")
        disk.settle()
        disk.write(2, "b")
        disk.write(3, "c")
        disk.stop([False, True])
        self.assertEqual(disk.blocks(), of_blocks([(1, "a"), (3, "c")]))

    def test_armed_so_many_deeds_are_done(self):
        for deeds in range(6):
            disk = Disk()
            disk.write(9, "before")
            self.assertIsNone(disk.arm(deeds, [True, False, True]))
            done = 0
            with self.assertRaises(Stopped):
                for at in range(6):
                    disk.write(at, (at,))
                    done += 1
            self.assertEqual(done, deeds)
            self.refused_all(disk)
            stays = [(9, "before")] + ([(1, (1,))] if deeds > 1 else [])
            self.assertEqual(disk.blocks(), of_blocks(stays))

    def test_settles_are_deeds_reads_are_none(self):
        disk = Disk()
        disk.arm(3, [True])
        for _ in range(5):
            disk.read(1)
            disk.blocks()
        disk.write(1, "a")
        disk.settle()
        disk.read(1)
        disk.settle()
        self.refused(Stopped, disk.settle)
        self.refused_all(disk)
        disk.again()
        self.assertEqual(disk.read(1), "a")

    def test_a_settle_that_is_not_done(self):
        for picks, stays in [([], []), ([True], [(1, "a")]), ([False, True], [(2, "b")]),
                             ([True, True, True], [(1, "a"), (2, "b")])]:
            disk = Disk()
            disk.arm(2, picks)
            disk.write(1, "a")
            disk.write(2, "b")
            self.refused(Stopped, disk.settle)
            disk.again()
            self.assertEqual(disk.blocks(), of_blocks(stays))

    def test_the_refused_write_is_not_picked(self):
        disk = Disk()
        disk.arm(1, [True, True, True])
        disk.write(1, "a")
        self.refused(Stopped, disk.write, 2, "b")
        disk.again()
        self.assertEqual(disk.blocks(), of_blocks([(1, "a")]))

    def test_armed_with_no_deeds(self):
        disk = Disk()
        disk.write(1, "a")
        disk.arm(0, [True])
        self.assertEqual(disk.read(1), "a")
        self.assertEqual(disk.blocks(), [None] * 600)
        self.refused(Stopped, disk.write, 2, "b")
        self.assertEqual(disk.blocks(), of_blocks([(1, "a")]))
        self.refused_all(disk)

    def test_the_newest_arm_counts(self):
        disk = Disk()
        disk.arm(0, [True])
        disk.arm(2, [False, True])
        disk.write(1, "a")
        disk.arm(1, [])
        disk.write(2, "b")
        self.refused(Stopped, disk.write, 3, "c")
        self.assertEqual(disk.blocks(), [None] * 600)
        disk = Disk()
        disk.arm(0, [])
        disk.arm(5, [])
        for at in range(5):
            disk.write(at, at)
        self.refused(Stopped, disk.settle)

    def test_stop_of_an_armed_disk_goes_by_its_own_picks(self):
        disk = Disk()
        disk.arm(5, [True, True])
        disk.write(1, "a")
        disk.write(2, "b")
        disk.stop([False, True])
        self.assertEqual(disk.blocks(), of_blocks([(2, "b")]))

    def test_again_leaves_nothing_armed(self):
        disk = Disk()
        disk.arm(1, [True])
        disk.write(1, "a")
        self.refused(Stopped, disk.settle)
        disk.again()
        for at in range(20):
            disk.write(at, "b")
            disk.settle()
        disk.arm(3, [])
        disk.stop([])
        disk.again()
        for at in range(20):
            disk.write(at, "c")
        disk.settle()
        self.assertEqual(disk.read(19), "c")

    def test_arm_and_stop_of_a_stopped_disk_do_nothing(self):
        disk = Disk()
        disk.write(1, "a")
        disk.write(2, "b")
        disk.stop([True])
        self.assertIsNone(disk.stop([True, True]))
        self.assertIsNone(disk.arm(1, [True, True]))
        self.refused_all(disk)
        self.assertEqual(disk.blocks(), of_blocks([(1, "a")]))
        disk.again()
        self.assertEqual(disk.blocks(), of_blocks([(1, "a")]))
        for at in range(5):
            disk.write(at, at)
        disk.settle()

    def test_wrong_blocks_go_ahead_of_a_stop(self):
        stopped = Disk()
        stopped.stop([])
        armed = Disk()
        armed.arm(0, [])
        for disk in (stopped, armed):
            for block in WRONG_BLOCKS:
                self.refused(BadBlock, disk.read, block)
                self.refused(BadBlock, disk.write, block, (1,))
            for what in FORTY_ONE:
                self.refused(BadBlock, disk.write, 1, what)
        # They aren't deeds.
        self.assertIsNone(armed.read(1))
        self.refused(Stopped, armed.write, 1, (1,))

    def test_a_refused_write_is_no_deed_and_none_that_is_picked(self):
        disk = Disk()
        disk.arm(2, [False, True])
        self.refused(BadBlock, disk.write, 600, (1,))
        disk.write(1, "a")
        self.refused(BadBlock, disk.write, 2, (1,) * 41)
        disk.write(3, "b")
        self.refused(Stopped, disk.settle)
        self.assertEqual(disk.blocks(), of_blocks([(3, "b")]))


class NothingIsKeptTest(RefusalCase):
    def test_told_blocks_may_be_changed(self):
        disk = Disk()
        disk.write(1, "a")
        disk.settle()
        told = disk.blocks()
        told[1] = "b"
        told.append(5)
        self.assertEqual(disk.blocks(), of_blocks([(1, "a")]))
        self.assertEqual(disk.read(1), "a")
        disk.stop([])
        disk.blocks()[1] = "c"
        disk.again()
        disk.blocks()[1] = "d"
        self.assertEqual(disk.read(1), "a")
        self.assertEqual(disk.blocks(), of_blocks([(1, "a")]))

    def test_picks_may_be_changed_later(self):
        disk = Disk()
        picks = [True, False]
        disk.arm(2, picks)
        picks[0] = False
        picks[1] = True
        picks.append(True)
        disk.write(1, "a")
        disk.write(2, "b")
        self.refused(Stopped, disk.settle)
        self.assertEqual(picks, [False, True, True])
        self.assertEqual(disk.blocks(), of_blocks([(1, "a")]))

    def test_blocks_told_earlier_stay(self):
        disk = Disk()
        disk.write(1, "a")
        disk.settle()
        told = disk.blocks()
        disk.write(1, "b")
        disk.settle()
        disk.write(1, "c")
        disk.stop([True])
        self.assertEqual(told, of_blocks([(1, "a")]))

    def test_two_disks_are_apart(self):
        one, other = Disk(), Disk()
        one.write(1, "a")
        one.settle()
        other.write(2, "b")
        one.arm(0, [])
        other.settle()
        self.refused(Stopped, one.settle)
        self.assertEqual(other.read(2), "b")
        self.assertIsNone(other.read(1))
        self.assertEqual(one.blocks(), of_blocks([(1, "a")]))
        self.assertEqual(other.blocks(), of_blocks([(2, "b")]))


if __name__ == "__main__":
    unittest.main()
