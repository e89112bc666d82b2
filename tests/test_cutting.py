"""Points 4 and 5, cuts, prices and bounds, and point 1 as far as codecolumns.cutting goes."""

import itertools
import random
import unittest

from codecolumns.cutting import bound, cut, prices
from codecolumns.errors import BadPrices, BadValues
from codecolumns.forms import least_form, room, values_of
from refusals import RefusalCase

# Values, and by hand their cut and its cells.
COUNTED = [
    ([5], [("plain", (5,))], 2),
    ([5, 5], [("plain", (5, 5))], 3),
    ([5, 5, 5], [("one", 3, 5)], 3),
    ([-9999, 9999], [("plain", (-9999, 9999))], 3),
    ([4] * 32, [("one", 32, 4)], 3),
    (list(range(32)), [("steps", 32, 0, 1, 0, ())], 5),
    # Two values, each many times: their places among the two are a single cell.
    ([7] * 5 + [-900] * 6, [("codes", 11, (-900, 7), (31,))], 5),
    ([7] * 15 + [-900] * 17, [("one", 15, 7), ("one", 17, -900)], 6),
    # One value apart, and many alike: either ahead or behind.
    ([9000] + [4] * 31, [("plain", (9000,)), ("one", 31, 4)], 5),
    ([4] * 31 + [9000], [("one", 31, 4), ("plain", (9000,))], 5),
    # As few cells as these two stretches would have, in a single one.
    ([9, 4, 4, 4, 4, 4], [("codes", 6, (4, 9), (1,))], 5),
    # A run of steps between two stretches of values that are alike.
    ([800] * 9 + [0, 70, 140, 210, 280, 350, 420] + [-5] * 4,
     [("one", 9, 800), ("steps", 7, 0, 70, 0, ()), ("one", 4, -5)], 11),
    # As few cells in as many stretches by several cuts: the first ends come first.
    ([0, 0, 0, 0, 1, 2, 3, 9999], [("one", 4, 0), ("plain", (1, 2, 3, 9999))], 8),
    ([0, 3009, 3001, 3001, 3004, 3001, 3004, 3002],
     [("plain", (0,)), ("near", 7, 3001, 8, (2195, 108))], 8),
    (list(range(0, 11000, 1000))[:10] + list(range(9000, -1, -1000))[1:],
     [("steps", 9, 0, 1000, 0, ()), ("steps", 10, 9000, -1000, 0, ())], 10),
]

# Values that are none, with the place of the first.
WRONG = [
    ([], 0), ([10000], 0), ([-10000], 0), ([1, 10 ** 29], 1), ([0, -9999, -10000, 10000], 2),
    ([3] * 31 + [10000], 31), ([3] * 33, 32), ([3] * 40, 32), ([3] * 32 + [-10000], 32),
    ([3] * 7 + [-10000] + [3] * 30, 7),
]


# Values with several cuts of as few cells in as many stretches.
TIED = [
    [0, 0, 0, 0, -2, -4, -6, 3003], [0, 0, 0, -1, -2, -3, -4, 3000],
    [-9000, -9000, -9000, -9000, -9000, -8998, -8999, 9999],
    [3000, 3000, 3000, 3000, 2999, 2998, 2997, 0], [1, 1, 0, 2, 0, 3, 6, 3000],
    [-9000, 4, 1, 1, 1, 2, 0, 0], [0, 0, 0, 0, 2, 1, 4, -8999],
    [-9000, -8998, -8997, -9000, -9000, -9000, -9003, 0], [0, 0, 0, 1, 2, 3, 4, 9999],
    [0, 3009, 3001, 3001, 3004, 3001, 3004, 3002], [1, 2, 2, 1, 1, 0, 8, 3000],
]


def all_cuts(many):
    """The lists of ends of all cuts of so many values."""
    for inner in range(many):
        for ends in itertools.combinations(range(1, many), inner):
            yield [*ends, many]


def stretches(values, ends):
    return [values[start:end] for start, end in zip([0, *ends], ends)]


def short_lists():
    """Short lists of many kinds, up to eight values."""
    yield from TIED
    for many in range(1, 6):
        for values in itertools.product([0, 1, 9000], repeat=many):
            yield list(values)
    dice = random.Random(4)
    for _ in range(250):
        many = dice.randint(5, 8)
        sort = dice.choice(["few", "near", "far", "steps", "mixed", "mixed"])
        yield values_like(dice, sort, many)


def values_like(dice, sort, many):
    """So many values of a sort: alike, few, near, steps, far, or a mixture of these."""
    start = dice.randint(-9000, 9000)
    if sort == "alike":
        return [start] * many
    if sort == "few":
        few = [dice.randint(-9999, 9999) for _ in range(dice.randint(2, 4))]
        return [dice.choice(few) for _ in range(many)]
    if sort == "near":
        wide = dice.choice([1, 2, 4, 9, 20, 99, 600])
        return [start + dice.randint(0, wide) for _ in range(many)]
    if sort == "steps":
        step, wide = dice.randint(-25, 25), dice.choice([0, 0, 1, 2])
        values = [start]
        while len(values) < many:
            values.append(values[-1] + step + dice.randint(0, wide))
        return values
    if sort == "far":
        return [dice.choice([-9999, 9999, -1, 0, 5000]) for _ in range(many)]
    values = []
    while len(values) < many:
        sort = dice.choice(["alike", "few", "near", "steps", "far"])
        values += values_like(dice, sort, dice.randint(1, 9))
    return values[:many]


def long_lists():
    dice = random.Random(5)
    for sort in ["alike", "few", "near", "steps", "far", "mixed", "mixed", "mixed"]:
        for many in [1, 2, 3, 13, 14, 31, 32]:
            yield values_like(dice, sort, many)
    yield [-9999, 9999] * 16
    yield list(range(-9999, 9999, 625))
    yield [at * at for at in range(32)]


def rooms_of(values):
    """The fewest cells of each stretch, by its beginning and its end."""
    rooms = {}
    for start in range(len(values)):
        for end in range(start + 1, len(values) + 1):
            rooms[start, end] = room(least_form(values[start:end]))
    return rooms


def cells_of(forms):
    return sum(room(form) for form in forms)


def counted_prices(values):
    rooms = rooms_of(values)
    told = [0]
    for end in range(1, len(values) + 1):
        told.append(min(told[start] + rooms[start, end] for start in range(end)))
    return told


class CutTest(RefusalCase):
    def test_cuts_counted_by_hand(self):
        for values, forms, cells in COUNTED:
            told = cut(values)
            self.assertIs(told.__class__, list)
            self.assertEqual(told, forms, values)
            self.assertEqual(cells_of(told), cells, values)

    def test_against_all_cuts_of_short_lists(self):
        for values in short_lists():
            rooms = rooms_of(values)
            choices = []
            for ends in all_cuts(len(values)):
                cells = sum(rooms[start, end] for start, end in zip([0, *ends], ends))
                choices.append((cells, len(ends), ends))
            best = min(choices)[2]
            told = [least_form(stretch) for stretch in stretches(values, best)]
            self.assertEqual(cut(values), told, values)

    def test_long_lists_are_told_whole_by_least_forms(self):
        for values in long_lists():
            forms = cut(values)
            told = []
            for form in forms:
                stretch = values_of(form)
                self.assertEqual(form, least_form(stretch), values)
                told += stretch
            self.assertEqual(told, values)

    def test_long_lists_against_the_best_of_each_rest(self):
        for values in long_lists():
            rooms = rooms_of(values)
            best = {len(values): (0, 0, [])}
            for start in range(len(values) - 1, -1, -1):
                choices = []
                for end in range(start + 1, len(values) + 1):
                    cells, many, ends = best[end]
                    choices.append((rooms[start, end] + cells, 1 + many, [end, *ends]))
                best[start] = min(choices)
            told = [least_form(stretch) for stretch in stretches(values, best[0][2])]
            self.assertEqual(cut(values), told, values)

    def test_ties_go_to_fewer_stretches_and_then_to_the_ends_that_come_first(self):
        fewer, first = 0, 0
        for values in short_lists():
            rooms = rooms_of(values)
            ends_by = {}
            for ends in all_cuts(len(values)):
                cells = sum(rooms[start, end] for start, end in zip([0, *ends], ends))
                ends_by.setdefault(cells, []).append(ends)
            best = ends_by[min(ends_by)]
            lengths = [len(ends) for ends in best]
            fewer += len(set(lengths)) > 1
            first += lengths.count(min(lengths)) > 1
        # The lists that are gone through have ties of both kinds.
        self.assertGreater(fewer, 20)
        self.assertGreaterEqual(first, len(TIED))

    def test_values_that_are_none(self):
        for values, place in WRONG:
            self.refused_at(place, BadValues, cut, values)
            self.refused_at(place, BadValues, prices, values)
            self.refused_at(place, BadValues, bound, values, [0] * (len(values) + 1))


class PricesTest(RefusalCase):
    def test_prices_counted_by_hand(self):
        self.assertEqual(prices([5]), [0, 2])
        self.assertEqual(prices([5, 5, 5, 5]), [0, 2, 3, 3, 3])
        self.assertEqual(prices([9, 4, 4, 4, 4, 4]), [0, 2, 3, 4, 5, 5, 5])
        self.assertEqual(prices([0, 300, 600, 900, 1200, 1500]), [0, 2, 3, 4, 5, 5, 5])

    def test_every_place_against_all_cuts_of_short_lists(self):
        for values in short_lists():
            told = [0]
            for many in range(1, len(values) + 1):
                rooms = rooms_of(values[:many])
                told.append(min(sum(rooms[pair] for pair in zip([0, *ends], ends))
                                for ends in all_cuts(many)))
            self.assertEqual(prices(values), told, values)

    def test_every_place_of_long_lists(self):
        for values in long_lists():
            told = prices(values)
            self.assertIs(told.__class__, list)
            self.assertEqual(told, counted_prices(values), values)

    def test_the_last_is_the_cells_of_the_cut_and_each_that_of_the_values_ahead(self):
        for values in long_lists():
            told = prices(values)
            self.assertEqual(len(told), len(values) + 1)
            self.assertEqual(told[-1], cells_of(cut(values)))
            for place in (1, len(values) // 2, len(values) - 1):
                if place > 0:
                    self.assertEqual(told[place], cells_of(cut(values[:place])))


class BoundTest(RefusalCase):
    def test_of_the_told_prices(self):
        for values in long_lists():
            self.assertEqual(bound(values, prices(values)), cells_of(cut(values)))

    def test_of_lesser_prices(self):
        for values in long_lists():
            many = len(values)
            self.assertEqual(bound(values, [0] * (many + 1)), 0)
            self.assertEqual(bound(values, [0] * many + [1]), 1)
            self.assertEqual(bound(values, [0] * many + [-3]), -3)
            falling = [-10 ** 28 * at for at in range(many + 1)]
            self.assertEqual(bound(values, falling), falling[-1])
            self.assertEqual(bound(values, [price // 2 for price in prices(values)]),
                             prices(values)[-1] // 2)

    def test_each_list_by_its_stretches(self):
        dice = random.Random(6)
        taken, refused = 0, 0
        for values in [*itertools.islice(long_lists(), 0, None, 3)]:
            rooms = rooms_of(values)
            least = prices(values)
            for _ in range(40):
                told = list(least)
                for _ in range(dice.randint(1, 3)):
                    told[dice.randint(1, len(values))] += dice.choice([-3, -2, -1, 1, 2])
                if all(told[end] - told[start] <= rooms[start, end] for start, end in rooms):
                    self.assertEqual(bound(values, told), told[-1])
                    taken += 1
                else:
                    self.refused(BadPrices, bound, values, told)
                    refused += 1
        self.assertGreater(taken, 50)
        self.assertGreater(refused, 50)

    def test_no_bound_is_more_than_the_cells_of_the_cut(self):
        for values in long_lists():
            told = prices(values)
            told[-1] += 1
            self.refused(BadPrices, bound, values, told)
            self.refused(BadPrices, bound, values, told[:-1] + [10 ** 29])

    def test_a_price_turned_up_or_down(self):
        values = [9, 4, 4, 4, 4, 4]
        self.assertEqual(bound(values, [0, 2, 3, 4, 5, 5, 5]), 5)
        for place in range(1, 7):
            told = [0, 2, 3, 4, 5, 5, 5]
            told[place] += 1
            self.refused(BadPrices, bound, values, told)
        # Turned down, a price leaves more for the stretches behind it, as far as they have it.
        self.assertEqual(bound(values, [0, 2, 3, 3, 5, 5, 5]), 5)
        self.assertEqual(bound(values, [0, 2, 3, 4, 4, 5, 5]), 5)
        self.assertEqual(bound(values, [0, 2, 2, 4, 5, 5, 5]), 5)
        self.refused(BadPrices, bound, values, [0, 1, 3, 4, 5, 5, 5])
        self.refused(BadPrices, bound, values, [0, 2, 1, 4, 5, 5, 5])
        self.refused(BadPrices, bound, values, [0, 2, 3, 4, 5, 2, 5])

    def test_a_price_left_out_or_put_in(self):
        for values in long_lists():
            told = prices(values)
            self.refused(BadPrices, bound, values, told[:-1])
            self.refused(BadPrices, bound, values, told[1:])
            self.refused(BadPrices, bound, values, told + [0])
            self.refused(BadPrices, bound, values, [0] + told)
            self.refused(BadPrices, bound, values, told + [told[-1]])
            self.refused(BadPrices, bound, values, [])
            self.refused(BadPrices, bound, values, [0])

    def test_the_first_is_nought(self):
        for values in long_lists():
            for by in (1, -1, 10 ** 29):
                self.refused(BadPrices, bound, values, [price + by for price in prices(values)])
                self.refused(BadPrices, bound, values, [by] + prices(values)[1:])

    def test_far_prices(self):
        values = [5, 7, 5]
        self.refused(BadPrices, bound, values, [0, 10 ** 29, 0, 0])
        self.refused(BadPrices, bound, values, [0, 0, 0, 10 ** 29])
        self.refused(BadPrices, bound, values, [0, -10 ** 29, 0, 0])
        self.assertEqual(bound(values, [0, 0, 0, -10 ** 29]), -10 ** 29)

    def test_wrong_values_go_ahead_of_wrong_prices(self):
        for values, place in WRONG:
            for told in ([], [5], [0, 10 ** 29], [1] * (len(values) + 1)):
                self.refused_at(place, BadValues, bound, values, told)


class NothingIsChangedOrKeptTest(RefusalCase):
    def test_what_is_handed_in_stays_and_may_be_changed_later(self):
        for values in long_lists():
            own = list(values)
            forms, told = cut(own), prices(own)
            own_prices = list(told)
            bound(own, own_prices)
            self.refused(BadPrices, bound, own, own_prices[:-1])
            self.assertEqual((own, own_prices), (values, told))
            kept = list(forms)
            own[0] = -own[0] + 1
            own.append(3)
            self.assertEqual(forms, kept)
            self.assertEqual(cut(values), kept)

    def test_told_lists_may_be_changed(self):
        for values in long_lists():
            forms, told = cut(values), prices(values)
            kept, kept_prices = list(forms), list(told)
            forms.append(forms[0])
            forms[0] = ("one", 1, 77)
            told[0] = 5
            told.append(1)
            self.assertEqual(cut(values), kept)
            self.assertEqual(prices(values), kept_prices)


if __name__ == "__main__":
    unittest.main()
