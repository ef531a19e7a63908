"""Point 19: integers in written lines."""

import unittest

from reticle.words import is_integer, read_integers


class IsInteger(unittest.TestCase):
    def test_integers(self):
        for word in ["0", "1", "-1", "10", "-907", "9" * 30, "-" + "9" * 30]:
            self.assertIs(is_integer(word), True, word)

    def test_other_words(self):
        for word in ["", "-", "+1", "01", "-0", "00", "-01", "1.0", "1_0", "a", "1a", "--1", "1-", " 1", "1 ", "0x1"]:
            self.assertIs(is_integer(word), False, word)

    def test_too_many_digits(self):
        for word in ["1" * 31, "-" + "1" * 31, "0" * 31, "1" * 9999]:
            self.assertIs(is_integer(word), False, word)


class ReadIntegers(unittest.TestCase):
    def test_integers(self):
        self.assertEqual(read_integers(["0", "-7", "9" * 30]), (0, -7, 10 ** 30 - 1))
        self.assertEqual(read_integers([]), ())

    def test_one_is_none(self):
        self.assertIsNone(read_integers(["0", "01"]))
        self.assertIsNone(read_integers(["", "1"]))


if __name__ == "__main__":
    unittest.main()
