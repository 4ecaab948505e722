"""The classes of the errors, and their attributes."""

import unittest

from sideweave import errors

FROM_TEXT = (
    "NoTerm", "NoKernel", "NoLaunch", "NoWeave", "NoCode", "NoTraces", "NoBodies", "TooMany", "Full", "NoNumber",
    "NoPass", "NoUndo",
)


class Errors(unittest.TestCase):
    def test_the_first_class_is_a_value_error(self):
        self.assertEqual(errors.SideweaveError.__bases__, (ValueError,))
        self.assertEqual(str(errors.SideweaveError("why")), "why")

    def test_each_class_is_directly_derived_from_the_first(self):
        for name in FROM_TEXT + ("TooLong", "NoText"):
            found = getattr(errors, name)
            self.assertEqual(found.__bases__, (errors.SideweaveError,), name)
            self.assertEqual(found.__name__, name)

    def test_each_class_is_defined_in_its_file(self):
        for name in FROM_TEXT + ("SideweaveError", "TooLong", "NoText"):
            self.assertEqual(getattr(errors, name).__module__, "sideweave.errors", name)

    def test_errors_are_made_from_a_text(self):
        for name in FROM_TEXT:
            with self.assertRaises(errors.SideweaveError) as caught:
                raise getattr(errors, name)("the reason")
            self.assertEqual(caught.exception.__class__, getattr(errors, name))
            self.assertEqual(str(caught.exception), "the reason")

    def test_one_class_does_not_catch_another(self):
        for name in FROM_TEXT + ("TooLong", "NoText"):
            for other in FROM_TEXT + ("TooLong", "NoText"):
                same = issubclass(getattr(errors, name), getattr(errors, other))
                self.assertEqual(same, name == other, (name, other))

    def test_too_long_has_its_lane(self):
        for lane in (0, 1, 7, None):
            with self.assertRaises(errors.SideweaveError) as caught:
                raise errors.TooLong(lane)
            self.assertIs(caught.exception.lane, lane)
            self.assertFalse(hasattr(caught.exception, "line"))
            self.assertIsInstance(str(caught.exception), str)

    def test_no_text_has_its_line(self):
        for line in (0, 1, 25, None):
            with self.assertRaises(errors.SideweaveError) as caught:
                raise errors.NoText(line)
            self.assertIs(caught.exception.line, line)
            self.assertFalse(hasattr(caught.exception, "lane"))
            self.assertIsInstance(str(caught.exception), str)

    def test_attributes_belong_to_one_object(self):
        first, second = errors.TooLong(1), errors.TooLong(2)
        self.assertEqual((first.lane, second.lane), (1, 2))
        first, second = errors.NoText(1), errors.NoText(2)
        self.assertEqual((first.line, second.line), (1, 2))


if __name__ == "__main__":
    unittest.main()
