"""The classes of whichbroke.errors."""

import unittest

from whichbroke import errors

NAMES = ["BadWork", "BadGiven", "BadLook", "BadSet", "HasRoom", "NoLine", "NoLook", "BadText"]


class ErrorsTest(unittest.TestCase):

    def test_work_error_stands_straight_under_value_error(self):
        self.assertEqual(errors.WorkError.__bases__, (ValueError,))

    def test_all_others_stand_straight_under_work_error(self):
        for name in NAMES:
            self.assertEqual(getattr(errors, name).__bases__, (errors.WorkError,), name)

    def test_each_is_raised_and_caught_by_its_own_name(self):
        for name in NAMES:
            error = getattr(errors, name)
            with self.assertRaises(error) as caught:
                raise error("words")
            self.assertEqual(str(caught.exception), "words")

    def test_none_is_another(self):
        self.assertEqual(len({getattr(errors, name) for name in NAMES}), len(NAMES))


if __name__ == "__main__":
    unittest.main()
