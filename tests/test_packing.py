"""Point 2, packed numbers, and point 1 as far as codecolumns.packing goes."""

import unittest

from codecolumns.errors import BadNumber, BadValues
from codecolumns.packing import packed, per_cell, read_packed, unpacked
from refusals import RefusalCase

BAD_BASES = [1, 0, -1, -2, -10, -10000, 10001, 10002, 20000, 10 ** 29]
BASES = [2, 3, 4, 5, 6, 7, 10, 13, 21, 22, 32, 99, 100, 101, 5000, 9999, 10000]


def many_numbers(base, many):
    """So many numbers below the base, the greatest one first, 0 and all kinds behind."""
    return [(base - 1 + at * at * 37) % base for at in range(many)]


class PerCellTest(RefusalCase):
    def test_named_bases(self):
        for base, many in [(2, 13), (3, 8), (10, 4), (99, 2), (100, 2), (101, 1),
                           (5000, 1), (9999, 1), (10000, 1)]:
            self.assertEqual(per_cell(base), many, base)

    def test_bases_beside_a_power(self):
        for base, many in [(4, 6), (5, 5), (6, 5), (7, 4), (9, 4), (11, 3), (21, 3), (22, 2)]:
            self.assertEqual(per_cell(base), many, base)

    def test_every_base_takes_as_many_as_make_no_more_than_a_cell(self):
        for base in range(2, 10001):
            many = per_cell(base)
            self.assertLessEqual(base ** many, 10000)
            self.assertGreater(base ** (many + 1), 10000)

    def test_bases_that_are_none(self):
        for base in BAD_BASES:
            self.refused(BadNumber, per_cell, base)


class PackedTest(RefusalCase):
    def told(self, base, values, cells):
        told = packed(base, values)
        self.assertIs(told.__class__, tuple)
        self.assertEqual(told, cells)

    def test_empty_lists(self):
        for base in BASES:
            self.told(base, [], ())

    def test_short_lists_counted_by_hand(self):
        self.told(10, [7], (7,))
        self.told(10, [1, 2, 3], (321,))
        self.told(10, [1, 2, 3, 4], (4321,))
        self.told(10, [1, 2, 3, 4, 5], (4321, 5))
        self.told(10, [9] * 8, (9999, 9999))
        self.told(10, [0, 0, 0, 0, 0], (0, 0))
        self.told(2, [0, 1], (2,))
        self.told(2, [1] * 13, (8191,))
        self.told(2, [1] * 13 + [0, 1], (8191, 2))
        self.told(3, [2] * 8, (6560,))
        self.told(3, [0] * 8 + [1], (0, 1))
        self.told(99, [98, 98], (9800,))
        self.told(99, [1, 2, 3], (199, 3))
        self.told(100, [99, 98, 1], (9899, 1))
        self.told(101, [100, 0, 7], (100, 0, 7))
        self.told(5000, [4999, 1], (4999, 1))
        self.told(10000, [9999, 0], (9999, 0))

    def test_forty_numbers_that_fill_the_last_cell(self):
        values = [at % 7 for at in range(40)]
        self.told(7, values, (
            0 + 1 * 7 + 2 * 49 + 3 * 343, 4 + 5 * 7 + 6 * 49 + 0, 1 + 2 * 7 + 3 * 49 + 4 * 343,
            5 + 6 * 7 + 0 + 1 * 343, 2 + 3 * 7 + 4 * 49 + 5 * 343, 6 + 0 + 1 * 49 + 2 * 343,
            3 + 4 * 7 + 5 * 49 + 6 * 343, 0 + 1 * 7 + 2 * 49 + 3 * 343, 4 + 5 * 7 + 6 * 49 + 0,
            1 + 2 * 7 + 3 * 49 + 4 * 343))

    def test_long_lists_cell_by_cell(self):
        for base in BASES:
            for many in [40, 300]:
                values = many_numbers(base, many)
                held = per_cell(base)
                cells = []
                for start in range(0, many, held):
                    own = values[start:start + held]
                    cells.append(sum(number * base ** at for at, number in enumerate(own)))
                self.told(base, values, tuple(cells))

    def test_bases_that_are_none(self):
        for base in BAD_BASES:
            self.refused(BadNumber, packed, base, [])
            self.refused(BadNumber, packed, base, [0])

    def test_numbers_that_are_not_below_the_base(self):
        for base in BASES:
            for wrong in [base, base + 1, 10 ** 29, -1, -base]:
                values = many_numbers(base, 41)
                for place in [0, 1, 20, 39, 40]:
                    broken = values[:place] + [wrong] + values[place + 1:]
                    self.refused_at(place, BadValues, packed, base, broken)

    def test_the_first_wrong_number_is_told(self):
        self.refused_at(1, BadValues, packed, 10, [9, 10, -1, 11])
        self.refused_at(1, BadValues, packed, 10, [9, -1, 10, 11])
        self.refused_at(0, BadValues, packed, 2, [2, 2, 2])
        self.refused_at(2, BadValues, packed, 10000, [0, 9999, 10000, -1])

    def test_a_wrong_base_goes_ahead_of_wrong_numbers(self):
        for base in BAD_BASES:
            self.refused(BadNumber, packed, base, [-1, 10 ** 9])

    def test_what_is_handed_in_stays(self):
        values = [1, 2, 3, 4, 5]
        self.told(10, values, (4321, 5))
        self.assertEqual(values, [1, 2, 3, 4, 5])
        self.refused(BadValues, packed, 4, values)
        self.assertEqual(values, [1, 2, 3, 4, 5])
        values[0] = 9
        self.told(10, values, (4329, 5))
        self.told(10, [1, 2, 3, 4, 5], (4321, 5))


class ReadPackedTest(RefusalCase):
    def test_cells_counted_by_hand(self):
        self.assertEqual([read_packed(10, (4321, 5), at) for at in range(8)],
                         [1, 2, 3, 4, 5, 0, 0, 0])
        self.assertEqual([read_packed(99, (199, 9800), at) for at in range(4)], [1, 2, 98, 98])
        self.assertEqual([read_packed(101, (100, 7), at) for at in range(2)], [100, 7])
        self.assertEqual([read_packed(2, (2,), at) for at in range(13)], [0, 1] + [0] * 11)
        self.assertEqual(read_packed(2, (4096,), 12), 1)
        self.assertEqual(read_packed(10000, (0, 9999), 1), 9999)

    def test_each_place_of_short_and_long_lists(self):
        for base in BASES:
            for many in [1, 2, 13, 40, 300]:
                values = many_numbers(base, many)
                cells = packed(base, values)
                held = per_cell(base) * len(cells)
                told = [read_packed(base, cells, place) for place in range(held)]
                self.assertEqual(told, values + [0] * (held - many))

    def test_places_behind_the_cells(self):
        for base in BASES:
            for many in [1, 40, 300]:
                cells = packed(base, many_numbers(base, many))
                held = per_cell(base) * len(cells)
                self.assertGreaterEqual(read_packed(base, cells, held - 1), 0)
                for place in [held, held + 1, held + per_cell(base), 10 ** 29]:
                    self.refused(BadNumber, read_packed, base, cells, place)

    def test_places_below_0(self):
        for base in BASES:
            for place in [-1, -2, -per_cell(base), -10 ** 29]:
                self.refused(BadNumber, read_packed, base, (0, 1), place)

    def test_no_cells_hold_no_place(self):
        for place in [-1, 0, 1]:
            self.refused(BadNumber, read_packed, 10, (), place)

    def test_cells_from_0_to_9999_are_read(self):
        for base in BASES:
            for cell in [0, 1, 9998, 9999]:
                for place in range(per_cell(base)):
                    self.assertEqual(read_packed(base, (cell,), place),
                                     cell // base ** place % base)

    def test_cells_that_are_none(self):
        for wrong in [-1, -9999, 10000, 10001, 10 ** 29]:
            for place in [0, 1, 5, 6]:
                cells = [9999] * 7
                cells[place] = wrong
                self.refused_at(place, BadValues, read_packed, 10, tuple(cells), 0)

    def test_the_first_wrong_cell_is_told(self):
        self.refused_at(1, BadValues, read_packed, 2, (0, 10000, -1, 10000), 0)
        self.refused_at(1, BadValues, read_packed, 2, (9999, -1, 10000), 0)

    def test_bases_that_are_none(self):
        for base in BAD_BASES:
            self.refused(BadNumber, read_packed, base, (1, 2), 0)

    def test_of_several_what_is_handed_in_first_is_refused(self):
        self.refused(BadNumber, read_packed, 1, (10000, -1), 0)
        self.refused(BadNumber, read_packed, 10001, (-1,), 5000)
        self.refused_at(0, BadValues, read_packed, 10, (-1,), -1)
        self.refused_at(1, BadValues, read_packed, 10, (0, 10000), 8)
        self.refused_at(1, BadValues, read_packed, 10, (0, 10000), 10 ** 29)

    def test_the_same_is_told_again(self):
        cells = (4321, 5)
        self.refused(BadNumber, read_packed, 10, cells, 8)
        for _ in range(3):
            self.assertEqual(read_packed(10, cells, 4), 5)
        self.assertEqual(cells, (4321, 5))


class UnpackedTest(unittest.TestCase):
    def test_the_numbers_that_were_packed(self):
        for base in BASES:
            for many in [0, 1, 13, 31, 32]:
                values = many_numbers(base, many)
                self.assertEqual(unpacked(base, packed(base, values), many), values)


if __name__ == "__main__":
    unittest.main()
