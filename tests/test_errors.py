"""The classes of refusals."""

import unittest

from paintyard import errors

NAMES = (
    "BadMode", "NoCell", "Uneven", "TooGreat", "BadEdge", "BadRule", "NoSign", "TooWide", "BadWay", "BadFile",
    "BadTiles", "BadName", "Taken", "BadPicture", "NoName", "BadPart", "NoPlace", "BadWord", "Nothing", "NoText",
)


class ErrorsTest(unittest.TestCase):
    def test_all_are_there_below_paint_error(self):
        for name in NAMES:
            refusal = getattr(errors, name)
            self.assertTrue(issubclass(refusal, errors.PaintError), name)
            self.assertTrue(issubclass(refusal, ValueError), name)

    def test_paint_error_is_a_value_error(self):
        self.assertEqual(errors.PaintError.__bases__, (ValueError,))

    def test_none_lies_below_another(self):
        for name in NAMES:
            for other in NAMES:
                if name != other:
                    self.assertFalse(issubclass(getattr(errors, name), getattr(errors, other)), (name, other))

    def test_each_can_be_raised_and_caught_as_any_refusal(self):
        for name in NAMES:
            for caught in (getattr(errors, name), errors.PaintError, ValueError):
                with self.assertRaises(caught):
                    raise getattr(errors, name)("why")


if __name__ == "__main__":
    unittest.main()
