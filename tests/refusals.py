"""What the tests share to ask for a refusal."""

import unittest

from codecolumns import errors

KINDS = (
    errors.BadNumber, errors.BadValues, errors.NoForm, errors.BadPrices, errors.BadKinds,
    errors.BadRows, errors.BadCondition, errors.BadColumn, errors.BadHeap, errors.TooMany,
    errors.BadBlock, errors.Stopped, errors.BadText,
)


class RefusalCase(unittest.TestCase):
    def refused(self, kind, call, *told):
        """Hold that the call is refused with the very kind, and tell the error."""
        with self.assertRaises(errors.ColumnError, msg=repr(told)) as caught:
            call(*told)
        self.assertIs(caught.exception.__class__, kind, repr(told))
        self.assertIsInstance(caught.exception, ValueError)
        for other in KINDS:
            if other is not kind:
                self.assertNotIsInstance(caught.exception, other)
        return caught.exception

    def refused_at(self, place, kind, call, *told):
        """Hold that the call is refused with the kind and that place."""
        self.assertEqual(self.refused(kind, call, *told).place, place, repr(told))
