"""Point 3, the five forms, and point 1 as far as codecolumns.forms goes."""

import itertools
import unittest

from codecolumns.errors import BadNumber, BadValues, NoForm
from codecolumns.forms import laid, least_form, room, value_at, values_of
from refusals import RefusalCase

NAMES = ["plain", "one", "codes", "near", "steps"]

# Values, and by hand each form that they can have with its cells, and the least form's name.
COUNTED = [
    ([5], {
        "plain": (("plain", (5,)), 2),
        "one": (("one", 1, 5), 3),
    }, "plain"),
    ([-9999], {
        "plain": (("plain", (-9999,)), 2),
        "one": (("one", 1, -9999), 3),
    }, "plain"),
    ([5, 5], {
        "plain": (("plain", (5, 5)), 3),
        "one": (("one", 2, 5), 3),
        "steps": (("steps", 2, 5, 0, 0, ()), 5),
    }, "plain"),
    ([4, 4, 4], {
        "plain": (("plain", (4, 4, 4)), 4),
        "one": (("one", 3, 4), 3),
        "steps": (("steps", 3, 4, 0, 0, ()), 5),
    }, "one"),
    ([9999] * 32, {
        "plain": (("plain", (9999,) * 32), 33),
        "one": (("one", 32, 9999), 3),
        "steps": (("steps", 32, 9999, 0, 0, ()), 5),
    }, "one"),
    ([2, 1], {
        "plain": (("plain", (2, 1)), 3),
        "codes": (("codes", 2, (1, 2), (1,)), 5),
        "near": (("near", 2, 1, 1, (1,)), 5),
        "steps": (("steps", 2, 2, -1, 0, ()), 5),
    }, "plain"),
    ([-9999, 9999], {
        "plain": (("plain", (-9999, 9999)), 3),
        "codes": (("codes", 2, (-9999, 9999), (2,)), 5),
        "steps": (("steps", 2, -9999, 19998, 0, ()), 5),
    }, "plain"),
    ([9999, -9999], {
        "plain": (("plain", (9999, -9999)), 3),
        "codes": (("codes", 2, (-9999, 9999), (1,)), 5),
        "steps": (("steps", 2, 9999, -19998, 0, ()), 5),
    }, "plain"),
    # Two steps as far apart as may be: their span is 39,996.
    ([-9999, 9999, -9999], {
        "plain": (("plain", (-9999, 9999, -9999)), 4),
        "codes": (("codes", 3, (-9999, 9999), (2,)), 5),
    }, "plain"),
    ([7, 3, 3, 7, 3], {
        "plain": (("plain", (7, 3, 3, 7, 3)), 6),
        "codes": (("codes", 5, (3, 7), (9,)), 5),
        "near": (("near", 5, 3, 4, (504,)), 5),
        "steps": (("steps", 5, 7, -4, 8, (684,)), 6),
    }, "codes"),
    ([0, 1, 0, 1], {
        "plain": (("plain", (0, 1, 0, 1)), 5),
        "codes": (("codes", 4, (0, 1), (10,)), 5),
        "near": (("near", 4, 0, 1, (10,)), 5),
        "steps": (("steps", 4, 0, -1, 2, (20,)), 6),
    }, "plain"),
    ([0, 1, 2, 0, 1, 2], {
        "plain": (("plain", (0, 1, 2, 0, 1, 2)), 7),
        "codes": (("codes", 6, (0, 1, 2), (588,)), 6),
        "near": (("near", 6, 0, 2, (588,)), 5),
        "steps": (("steps", 6, 0, -2, 3, (975,)), 6),
    }, "near"),
    ([10, 12, 14, 17], {
        "plain": (("plain", (10, 12, 14, 17)), 5),
        "codes": (("codes", 4, (10, 12, 14, 17), (228,)), 7),
        "near": (("near", 4, 10, 7, (3856,)), 5),
        "steps": (("steps", 4, 10, 2, 1, (4,)), 6),
    }, "plain"),
    ([1, 2, 3, 4, 5], {
        "plain": (("plain", (1, 2, 3, 4, 5)), 6),
        "codes": (("codes", 5, (1, 2, 3, 4, 5), (2930,)), 8),
        "near": (("near", 5, 1, 4, (2930,)), 5),
        "steps": (("steps", 5, 1, 1, 0, ()), 5),
    }, "near"),
    ([9, 6, 3, 0, -3], {
        "plain": (("plain", (9, 6, 3, 0, -3)), 6),
        "codes": (("codes", 5, (-3, 0, 3, 6, 9), (194,)), 8),
        "near": (("near", 5, -3, 12, (1143, 3)), 6),
        "steps": (("steps", 5, 9, -3, 0, ()), 5),
    }, "steps"),
    ([-9999] * 3 + [9999] * 3, {
        "plain": (("plain", (-9999,) * 3 + (9999,) * 3), 7),
        "codes": (("codes", 6, (-9999, 9999), (56,)), 5),
    }, "codes"),
    # The widest spans: 9,999 of the values, and of the steps.
    ([0, 9999], {
        "plain": (("plain", (0, 9999)), 3),
        "codes": (("codes", 2, (0, 9999), (2,)), 5),
        "near": (("near", 2, 0, 9999, (0, 9999)), 6),
        "steps": (("steps", 2, 0, 9999, 0, ()), 5),
    }, "plain"),
    ([0, 0, 9999], {
        "plain": (("plain", (0, 0, 9999)), 4),
        "codes": (("codes", 3, (0, 9999), (4,)), 5),
        "near": (("near", 3, 0, 9999, (0, 0, 9999)), 7),
        "steps": (("steps", 3, 0, 0, 9999, (0, 9999)), 7),
    }, "plain"),
    # One more than the widest spans.
    ([-1, 9999], {
        "plain": (("plain", (-1, 9999)), 3),
        "codes": (("codes", 2, (-1, 9999), (2,)), 5),
        "steps": (("steps", 2, -1, 10000, 0, ()), 5),
    }, "plain"),
    ([0, -1, 9998], {
        "plain": (("plain", (0, -1, 9998)), 4),
        "codes": (("codes", 3, (-1, 0, 9998), (19,)), 6),
        "near": (("near", 3, -1, 9999, (1, 0, 9999)), 7),
    }, "plain"),
    # Two in a cell: 0 and 1, 2 and 3, each next pair making 66 more.
    (list(range(32)), {
        "plain": (("plain", tuple(range(32))), 33),
        "codes": (("codes", 32, tuple(range(32)), tuple(range(32, 1088, 66))), 50),
        "near": (("near", 32, 0, 31, tuple(range(32, 1088, 66))), 20),
        "steps": (("steps", 32, 0, 1, 0, ()), 5),
    }, "steps"),
    # Ones and noughts in turn: 13, 13 and six of them in a cell.
    ([1, 0] * 16, {
        "plain": (("plain", (1, 0) * 16), 33),
        "codes": (("codes", 32, (0, 1), (5461, 2730, 21)), 7),
        "near": (("near", 32, 0, 1, (5461, 2730, 21)), 7),
        "steps": (("steps", 32, 1, -1, 2, (4920, 4920, 4920, 546)), 9),
    }, "codes"),
]

# Values that are none, with the place of the first.
WRONG = [
    ([], 0),
    ([10000], 0),
    ([-10000], 0),
    ([10 ** 29], 0),
    ([1, 10000], 1),
    ([9999, -9999, -10000], 2),
    ([0, -10000, 10000, 5], 1),
    ([0, 10000, -10000, 5], 1),
    ([1] * 31 + [10000], 31),
    ([1] * 31 + [-10000], 31),
    ([1] * 33, 32),
    ([1] * 40, 32),
    ([1] * 32 + [10000], 32),
    ([1] * 5 + [10000] + [1] * 27, 5),
    ([-10000] + [1] * 32, 0),
    ([1] * 31 + [-10000, 1], 31),
    ([1] * 33 + [10000], 32),
]


def many_lists():
    """All short lists of some values, and long ones of many kinds."""
    for many in range(1, 6):
        for values in itertools.product([-7, 0, 1, 5], repeat=many):
            yield list(values)
    for values in itertools.product([-9999, 0, 9999], repeat=4):
        yield list(values)
    for many in [6, 12, 13, 14, 27, 31, 32]:
        for apart in [1, 2, 3, 7, 50, 99, 300, 620]:
            for by in [2, 3, 5, 32, 10000]:
                yield [(at * at * 11 + at) % by * apart % 19999 - 9999 for at in range(many)]
                yield [at * apart - 9999 + at * at % by % 3 for at in range(many)]
                yield [9999 - at * apart - at * at % by % 2 for at in range(many)]


def forms_of(values):
    """All forms that the values can have, in the document's order."""
    forms = []
    for name in NAMES:
        try:
            forms.append(laid(name, values))
        except NoForm:
            pass
    return forms


def counted_room(part):
    """One for each text and number within."""
    if isinstance(part, tuple):
        return sum(counted_room(inner) for inner in part)
    return 1


class LaidTest(RefusalCase):
    def test_forms_counted_by_hand(self):
        for values, forms, _ in COUNTED:
            for name in forms:
                told = laid(name, values)
                self.assertEqual(told, forms[name][0], (name, values))
                for part in told:
                    self.assertIn(part.__class__, (str, int, tuple))

    def test_forms_that_values_cannot_have(self):
        for values, forms, _ in COUNTED:
            for name in NAMES:
                if name not in forms:
                    self.refused(NoForm, laid, name, values)

    def test_which_values_have_which_form(self):
        for values in many_lists():
            steps = [b - a for a, b in zip(values, values[1:])]
            wide = max(values) - min(values)
            have = ["plain"]
            have += ["one"] if wide == 0 else ["codes"]
            have += ["near"] if 1 <= wide <= 9999 else []
            have += ["steps"] if steps and max(steps) - min(steps) <= 9999 else []
            self.assertEqual([form[0] for form in forms_of(values)],
                             [name for name in NAMES if name in have], values)

    def test_names_that_there_are_not(self):
        for name in ["", "Plain", "plain ", "ones", "code", "step", "nears", "0"]:
            self.refused(NoForm, laid, name, [1, 2, 3])

    def test_values_that_are_none(self):
        for values, place in WRONG:
            for name in NAMES:
                self.refused_at(place, BadValues, laid, name, values)

    def test_a_wrong_name_goes_ahead_of_wrong_values(self):
        for values, _ in WRONG:
            self.refused(NoForm, laid, "other", values)

    def test_wrong_values_go_ahead_of_a_form_they_cannot_have(self):
        self.refused_at(1, BadValues, laid, "one", [1, 10000])
        self.refused_at(32, BadValues, laid, "codes", [1] * 33)
        self.refused_at(1, BadValues, laid, "near", [0, 10000])
        self.refused_at(0, BadValues, laid, "steps", [])
        self.refused_at(0, BadValues, laid, "steps", [10000])

    def test_the_greatest_number_of_values(self):
        self.assertEqual(laid("plain", list(range(-9999, -9967))),
                         ("plain", tuple(range(-9999, -9967))))


class LeastFormTest(RefusalCase):
    def test_forms_counted_by_hand(self):
        for values, forms, least in COUNTED:
            self.assertEqual(least_form(values), forms[least][0], values)

    def test_the_fewest_cells_and_of_as_few_the_first(self):
        for values in many_lists():
            forms = forms_of(values)
            fewest = min(room(form) for form in forms)
            first = [form for form in forms if room(form) == fewest][0]
            self.assertEqual(least_form(values), first, values)

    def test_each_form_is_the_least_of_some(self):
        self.assertEqual(least_form([8])[0], "plain")
        self.assertEqual(least_form([8, 8, 8, 8]), ("one", 4, 8))
        self.assertEqual(least_form([-9999, 9999] * 4), ("codes", 8, (-9999, 9999), (170,)))
        self.assertEqual(least_form([3, 1, 4, 1, 5, 3]), ("near", 6, 1, 4, (2 + 3 * 25 + 4 * 625, 2)))
        self.assertEqual(least_form([0, 300, 600, 900, 1200]), ("steps", 5, 0, 300, 0, ()))

    def test_of_as_few_the_first(self):
        # plain and one, plain and near, codes and near, near and steps
        self.assertEqual(least_form([6, 6])[0], "plain")
        self.assertEqual(least_form([1, 2, 3, 5])[0], "plain")
        self.assertEqual(least_form([1, 2, 1, 2, 1])[0], "codes")
        self.assertEqual(least_form([1, 2, 3, 4, 5])[0], "near")

    def test_values_that_are_none(self):
        for values, place in WRONG:
            self.refused_at(place, BadValues, least_form, values)


class RoomTest(unittest.TestCase):
    def test_forms_counted_by_hand(self):
        for _, forms, _ in COUNTED:
            for name in forms:
                form, cells = forms[name]
                self.assertEqual(room(form), cells, form)

    def test_each_number_within_is_one(self):
        for values in many_lists():
            for form in forms_of(values):
                self.assertEqual(room(form), counted_room(form), form)


class ValuesTest(RefusalCase):
    def test_forms_counted_by_hand(self):
        for values, forms, _ in COUNTED:
            for name in forms:
                told = values_of(forms[name][0])
                self.assertIs(told.__class__, list)
                self.assertEqual(told, values, name)

    def test_values_of_all_forms(self):
        for values in many_lists():
            for form in forms_of(values):
                self.assertEqual(values_of(form), values, form)

    def test_each_place_of_forms_counted_by_hand(self):
        for values, forms, _ in COUNTED:
            for name in forms:
                told = [value_at(forms[name][0], place) for place in range(len(values))]
                self.assertEqual(told, values, name)

    def test_each_place_of_all_forms(self):
        for values in many_lists():
            for form in forms_of(values):
                told = [value_at(form, place) for place in range(len(values))]
                self.assertEqual(told, values, form)

    def test_places_that_there_are_not(self):
        for values, forms, _ in COUNTED:
            for name in forms:
                for place in [-1, -len(values), -10 ** 29, len(values), len(values) + 1, 10 ** 29]:
                    self.refused(BadNumber, value_at, forms[name][0], place)


class NothingIsChangedOrKeptTest(RefusalCase):
    def test_what_is_handed_in_stays(self):
        for values, forms, _ in COUNTED:
            own = list(values)
            least_form(own)
            for name in NAMES:
                if name in forms:
                    laid(name, own)
                else:
                    self.refused(NoForm, laid, name, own)
            self.assertEqual(own, values)
        for values, _ in WRONG:
            own = list(values)
            self.refused(BadValues, least_form, own)
            self.assertEqual(own, values)

    def test_what_is_handed_in_may_be_changed_later(self):
        for values, forms, least in COUNTED:
            own = list(values)
            told = [laid(name, own) for name in forms] + [least_form(own)]
            own[0] = 77
            own.append(78)
            self.assertEqual(told, [forms[name][0] for name in forms] + [forms[least][0]])

    def test_a_told_list_may_be_changed(self):
        for values, forms, _ in COUNTED:
            for name in forms:
                form = laid(name, values)
                told = values_of(form)
                told[0] += 1
                told.append(0)
                self.assertEqual(values_of(form), values)
                self.assertEqual(value_at(form, 0), values[0])
                self.assertEqual(form, forms[name][0])

    def test_the_same_is_told_again(self):
        for values, forms, least in COUNTED:
            for _ in range(2):
                self.assertEqual(least_form(values), forms[least][0])
                for name in forms:
                    self.assertEqual(laid(name, values), forms[name][0])


if __name__ == "__main__":
    unittest.main()
