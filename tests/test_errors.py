"""The classes of refusals: [5]."""

import unittest

from lineswitch import errors

WITH_TEXT = [
    errors.NoBoard, errors.NoLine, errors.NoSwitching, errors.NoNumber, errors.Unlike,
    errors.NoNet, errors.NoPlace, errors.NoText, errors.NoRow,
]


class ErrorsTest(unittest.TestCase):
    def test_switch_error_stands_under_value_error(self):
        self.assertEqual(errors.SwitchError.__bases__, (ValueError,))
        self.assertEqual(str(errors.SwitchError("words")), "words")

    def test_each_class_stands_straight_under_switch_error(self):
        for refused in WITH_TEXT + [errors.TooMany]:
            self.assertEqual(refused.__bases__, (errors.SwitchError,), refused)

    def test_ten_classes_stand_there(self):
        self.assertEqual(len(set(WITH_TEXT + [errors.TooMany])), 10)

    def test_each_is_made_with_a_text(self):
        for refused in WITH_TEXT:
            self.assertEqual(str(refused("words")), "words")

    def test_too_many_has_its_fields(self):
        error = errors.TooMany(11, 8)
        self.assertEqual((error.many, error.most), (11, 8))
        self.assertIsInstance(str(error), str)


if __name__ == "__main__":
    unittest.main()
