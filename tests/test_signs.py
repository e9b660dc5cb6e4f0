import string
import unittest

from textworths.errors import InvalidSigns, UnknownSign
from textworths.signs import check_message, check_sign, check_signs


class Signs(unittest.TestCase):
    def test_right_signs(self):
        for signs in ("a", "z", "ab", "az", "bxz", string.ascii_lowercase):
            self.assertIsNone(check_signs(signs))

    def test_wrong_signs(self):
        for signs in ("", "ba", "aa", "abb", "aba", "A", "aB", "1", "a1", " ", "a ", "a b", "-", "`", "{",
                      "a{", "`a", "ab\n", "\u00e4", "a\u00e4", "\u0430", "zaz"):
            with self.subTest(signs), self.assertRaises(InvalidSigns) as caught:
                check_signs(signs)
            self.assertEqual(caught.exception.value, signs)

    def test_sign(self):
        self.assertIsNone(check_sign("abc", "b"))
        for sign in ("", "ab", "bc", "abc", "d", "A", " "):
            with self.subTest(sign), self.assertRaises(UnknownSign) as caught:
                check_sign("abc", sign)
            self.assertEqual(caught.exception.value, sign)

    def test_message(self):
        for message in ("", "a", "cab", "abc" * 100):
            self.assertIsNone(check_message("abc", message))
        for message, sign in (("d", "d"), ("abxay", "x"), ("ab c", " "), ("aA", "A")):
            with self.assertRaises(UnknownSign) as caught:
                check_message("abc", message)
            self.assertEqual(caught.exception.value, sign)


if __name__ == "__main__":
    unittest.main()
