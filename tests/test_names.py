"""Names and marks, with [0.1] and [0.5]."""

import string
import unittest

from namedabove.base.names import is_mark, is_name
from tests.values import several

NAMES = ("a", "z", "ann", "bob", "abcdefgh", "zzzzzzzz", *string.ascii_lowercase)
NO_NAMES = (
    "", "abcdefghi", "z" * 9, "z" * 300, "A", "Ann", "anN", "ANN", "ann1", "1", "0", " ", "ann ", " ann", "an n",
    "ann\n", "\n", "\nann", "a\nb", "\t", "an-n", "an_n", "_", "`", "{", "a`", "a{", ".", "@", "[",
    "\u00e4", "ann\u00e9", "\u00df", "\u0430", "\u00aa", "\uff41", "\U0001d41a", "a\u0301", "\u0131", "a\x00",
)


class Names(unittest.TestCase):
    def test_names(self):
        for value in NAMES:
            self.assertIs(is_name(value), True, value)

    def test_strings_that_are_no_names(self):
        for value in NO_NAMES:
            self.assertIs(is_name(value), False, repr(value))

    def test_each_single_character(self):
        for number in range(0x300):
            self.assertIs(is_name(chr(number)), chr(number) in string.ascii_lowercase, number)

    def test_each_length(self):
        for many in range(12):
            self.assertIs(is_name("q" * many), 1 <= many <= 8, many)

    def test_one_wrong_sign_anywhere(self):
        for at in range(8):
            self.assertIs(is_name("abcdefgh"[:at] + "B" + "abcdefgh"[at + 1:]), False)

    def test_values_of_other_kinds(self):
        for value in several():
            if not isinstance(value, str):
                self.assertIs(is_name(value), False, repr(value))
        for value in (("a",), ["a"], {"a": "a"}, ("a", "n", "n"), ["a", "n"], {"a": 1, "b": 2}):
            self.assertIs(is_name(value), False, repr(value))


class Marks(unittest.TestCase):
    def test_integers(self):
        for value in (0, 1, 2, 39, 40, 1000, 10**12 - 1, 10**40 - 1):
            self.assertIs(is_mark(value), True, value)
        for value in (-1, -2, -40, 1 - 10**12, 1 - 10**40):
            self.assertIs(is_mark(value), False, value)

    def test_true_and_false_are_no_marks(self):
        self.assertIs(is_mark(True), False)
        self.assertIs(is_mark(False), False)

    def test_values_of_other_kinds(self):
        for value in several():
            if not isinstance(value, int):
                self.assertIs(is_mark(value), False, repr(value))
        for value in ("0", "1", (0,), [0], {0: 0}, ((0,),), [[1]]):
            self.assertIs(is_mark(value), False, repr(value))

    def test_arguments_are_not_changed(self):
        for value, again in zip(several(), several()):
            is_mark(value)
            is_name(value)
            self.assertEqual(value, again)


if __name__ == "__main__":
    unittest.main()
