import unittest

from textworths import errors

NAMES = [
    "InvalidNumber", "InvalidSigns", "UnknownSign", "InvalidMachine", "UnlikeSigns", "Endless",
    "InvalidPattern", "InvalidBook", "InvalidName", "DoubleName", "UnknownName", "InvalidNote",
    "InvalidSource", "NoChance", "NothingToUndo", "Unreadable",
]
VALUES = [
    None, True, False, 0, -1, 10 ** 30, "", "ab", "-", (), (2, 4), (0, "a", [1], (1, 1)), [],
    [(1, 2), []], {}, {"a": [1]},
]


class Errors(unittest.TestCase):
    def each_class(self):
        for name in ["WorthError"] + NAMES:
            with self.subTest(name):
                yield getattr(errors, name)

    def test_there_are_seventeen(self):
        classes = [thing for thing in vars(errors).values() if isinstance(thing, type)]
        self.assertEqual(sorted(each.__name__ for each in classes), sorted(["WorthError"] + NAMES))
        self.assertEqual(len(classes), 17)

    def test_value_is_stored_itself(self):
        for each in self.each_class():
            for value in VALUES:
                self.assertIs(each(value).value, value)
                self.assertIs(each(value=value).value, value)

    def test_a_list_stays_the_very_list(self):
        for each in self.each_class():
            held = [1]
            error = each(held)
            held.append(2)
            self.assertEqual(error.value, [1, 2])

    def test_one_argument_is_wanted(self):
        for each in self.each_class():
            self.assertRaises(TypeError, each)
            self.assertRaises(TypeError, each, 1, 2)
            self.assertRaises(TypeError, each, other=1)

    def test_each_is_a_worth_error_and_a_value_error(self):
        for each in self.each_class():
            self.assertIsInstance(each(1), errors.WorthError)
            self.assertIsInstance(each(1), ValueError)
            with self.assertRaises(errors.WorthError) as caught:
                raise each("x")
            self.assertEqual(caught.exception.value, "x")

    def test_bases(self):
        self.assertEqual(errors.WorthError.__bases__, (ValueError,))
        for name in NAMES:
            each = getattr(errors, name)
            self.assertTrue(issubclass(each, errors.WorthError))
            of_the_program = [base for base in each.__mro__[1:] if base.__module__.startswith("textworths")]
            self.assertEqual(of_the_program, [errors.WorthError])

    def test_one_does_not_catch_another(self):
        for name in NAMES:
            for other in NAMES:
                told = isinstance(getattr(errors, name)(0), getattr(errors, other))
                self.assertEqual(told, name == other)


if __name__ == "__main__":
    unittest.main()
