"""[1.1]: the error classes, what they are derived from, and what they keep."""

import unittest

from namedabove import errors
from tests.values import several

WITH_MESSAGE = (
    errors.InvalidCutter, errors.InvalidCompany, errors.InvalidBundle, errors.InvalidRule, errors.InvalidLot,
    errors.InvalidState, errors.InvalidLetter, errors.InvalidPledge, errors.InvalidOperation,
)
OF_LETTERS = (*WITH_MESSAGE, errors.ParseError)
OTHERS = {
    errors.UnknownName: KeyError,
    errors.InvalidNumber: RuntimeError,
    errors.TooMany: OverflowError,
    errors.NothingToUndo: IndexError,
    errors.Broken: ArithmeticError,
}
KEEPING_ONE = {
    errors.ParseError: "line",
    errors.UnknownName: "name",
    errors.InvalidNumber: "value",
    errors.TooMany: "limit",
    errors.NothingToUndo: "many",
}


class Derived(unittest.TestCase):
    def test_letter_error_is_a_value_error(self):
        self.assertEqual(errors.LetterError.__bases__, (ValueError,))

    def test_letter_errors_are_derived_directly(self):
        for error in OF_LETTERS:
            with self.subTest(error=error):
                self.assertEqual(error.__bases__, (errors.LetterError,))

    def test_the_others_are_derived_directly_from_python_errors(self):
        for error, base in OTHERS.items():
            with self.subTest(error=error):
                self.assertEqual(error.__bases__, (base,))
                self.assertFalse(issubclass(error, errors.LetterError))

    def test_none_is_derived_from_another_one(self):
        every = (*OF_LETTERS, *OTHERS)
        self.assertEqual(len(set(every)), 15)
        for one in every:
            for other in every:
                self.assertEqual(issubclass(one, other), one is other, (one, other))

    def test_the_others_are_no_value_errors(self):
        for error in OTHERS:
            self.assertFalse(issubclass(error, ValueError), error)

    def test_classes_stand_in_the_module_itself(self):
        for error in (errors.LetterError, *OF_LETTERS, *OTHERS):
            self.assertEqual(error.__module__, "namedabove.errors")


class Kept(unittest.TestCase):
    def test_errors_with_a_message_can_be_raised(self):
        for error in (errors.LetterError, *WITH_MESSAGE):
            with self.subTest(error=error):
                with self.assertRaises(errors.LetterError) as caught:
                    raise error("what is wrong")
                self.assertIs(caught.exception.__class__, error)

    def check_same(self, found, value):
        self.assertEqual(found, value)
        self.assertIs(found.__class__, value.__class__)

    def test_each_kind_of_value_is_kept(self):
        for error, name in KEEPING_ONE.items():
            for value, again in zip(several(), several()):
                with self.subTest(error=error, value=value):
                    with self.assertRaises(error) as caught:
                        raise error(value)
                    self.check_same(getattr(caught.exception, name), again)

    def test_broken_keeps_both(self):
        for value, again in zip(several(), several()):
            with self.subTest(value=value):
                with self.assertRaises(errors.Broken) as caught:
                    raise errors.Broken(value, "why")
                self.check_same(caught.exception.name, again)
                self.check_same(caught.exception.reason, "why")
                error = errors.Broken("firm", value)
                self.check_same(error.name, "firm")
                self.check_same(error.reason, again)

    def test_number_of_arguments(self):
        for error in KEEPING_ONE:
            self.assertRaises(TypeError, error)
            self.assertRaises(TypeError, error, 1, 2)
        self.assertRaises(TypeError, errors.Broken, "firm")
        self.assertRaises(TypeError, errors.Broken, "firm", 1, 2)

    def test_later_changes_of_a_value_do_not_reach_the_error(self):
        for error, name in KEEPING_ONE.items():
            value = [1, {"a": [2]}, ([3],)]
            kept = error(value)
            value[1]["a"].append(4)
            value[1]["b"] = 5
            value[2][0].append(6)
            value.append(7)
            self.assertEqual(getattr(kept, name), [1, {"a": [2]}, ([3],)])

    def test_two_errors_are_apart(self):
        first, second = errors.TooMany(1), errors.TooMany(2)
        self.assertEqual((first.limit, second.limit), (1, 2))


if __name__ == "__main__":
    unittest.main()
