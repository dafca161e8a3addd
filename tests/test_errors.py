"""The interface of looseshelf.errors."""

import unittest

from looseshelf import errors

PLAIN = ("BadWidth", "BadRule", "BadKey", "BadNumber")
ALL = PLAIN + ("BadPattern", "BadDeed")


class Errors(unittest.TestCase):
    def test_any_refusal_is_a_shelf_error_and_a_value_error(self):
        self.assertEqual(errors.ShelfError.__bases__, (ValueError,))
        for name in ALL:
            with self.subTest(name=name):
                self.assertEqual(getattr(errors, name).__bases__, (errors.ShelfError,))

    def test_each_is_defined_in_the_file_that_lists_it(self):
        for name in ALL + ("ShelfError",):
            with self.subTest(name=name):
                self.assertEqual(getattr(errors, name).__module__, "looseshelf.errors")
                self.assertEqual(getattr(errors, name).__name__, name)

    def test_the_plain_ones_can_be_raised_with_a_text(self):
        for name in PLAIN + ("ShelfError",):
            with self.subTest(name=name):
                with self.assertRaises(errors.ShelfError) as caught:
                    raise getattr(errors, name)("so")
                self.assertEqual(str(caught.exception), "so")

    def test_bad_pattern_has_at(self):
        for at in range(7):
            error = errors.BadPattern(at)
            self.assertEqual(error.at, at)
            self.assertIs(type(error.at), int)
            self.assertNotEqual(str(error), "")

    def test_bad_deed_has_number(self):
        for number in (0, 1, 12, 99, 100):
            error = errors.BadDeed(number)
            self.assertEqual(error.number, number)
            self.assertIs(type(error.number), int)
            self.assertNotEqual(str(error), "")


if __name__ == "__main__":
    unittest.main()
