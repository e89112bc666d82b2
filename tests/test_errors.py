"""The classes of refusals, as the interface lists them."""

import unittest

from codecolumns import errors
from refusals import KINDS

NAMES = [
    "BadNumber", "BadValues", "NoForm", "BadPrices", "BadKinds", "BadRows", "BadCondition",
    "BadColumn", "BadHeap", "TooMany", "BadBlock", "Stopped", "BadText",
]
PLACED = [errors.BadValues, errors.BadRows, errors.BadText]


class ErrorsTest(unittest.TestCase):
    def test_the_listed_classes_are_there(self):
        self.assertEqual([kind.__name__ for kind in KINDS], NAMES)
        for kind in KINDS:
            self.assertEqual(kind.__module__, "codecolumns.errors")
            self.assertIs(getattr(errors, kind.__name__), kind)

    def test_each_stands_directly_under_column_error(self):
        self.assertEqual(errors.ColumnError.__bases__, (ValueError,))
        for kind in KINDS:
            self.assertEqual(kind.__bases__, (errors.ColumnError,))

    def test_place_is_set_on_each_object_of_those_that_list_it(self):
        for kind in PLACED:
            self.assertEqual(vars(kind(0))["place"], 0)
            self.assertEqual(vars(kind(32))["place"], 32)
            self.assertTrue(str(kind(7)))

    def test_the_others_have_no_place(self):
        for kind in KINDS:
            if kind not in PLACED:
                self.assertFalse(hasattr(kind("why"), "place"))


if __name__ == "__main__":
    unittest.main()
