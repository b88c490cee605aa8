"""The classes of passproven.errors."""

import unittest

from passproven.errors import BadTerm, PassError, TextError, TooDeep, TooLarge, TooLong


class Classes(unittest.TestCase):
    def test_pass_error_is_a_value_error(self):
        self.assertEqual(PassError.__bases__, (ValueError,))

    def test_what_stands_directly_under_pass_error(self):
        for found in (TextError, TooLong, TooLarge):
            self.assertEqual(found.__bases__, (PassError,))

    def test_what_stands_directly_under_text_error(self):
        for found in (BadTerm, TooDeep):
            self.assertEqual(found.__bases__, (TextError,))

    def test_position(self):
        for found in (TextError, BadTerm, TooDeep):
            self.assertEqual(found(7).position, 7)


if __name__ == "__main__":
    unittest.main()
