"""What the test cases share."""

import unittest

from plain import form_by, form_told, kept, messages_to, pair_of, some_parts, worths_of
from textworths.machines import Machine
from textworths.tariffs import Tariff, tariff_of

ONE, NONE, HALF = (1, 1), (0, 1), (1, 2)
WRONG_NUMBERS = [(2, 4), (0, 2), (1, 0), (0, 0), (1, -1), (-3, -2)]
WRONG_SIGNS = ["", "ba", "aab", "aB", "a b", "a1", "\u00e4"]


def nothing(signs="ab"):
    """The tariff without heads."""
    return Tariff(signs, [], [], [])


def some_tariff(source, signs, size, digits=1):
    """A tariff of a machine of so many states, and its worths."""
    parts = some_parts(source, signs, size, source.randint(0, 3 * size), digits)
    return tariff_of(Machine(signs, *parts)), worths_of(parts)


def lists_within(thing):
    """All lists in lists and tuples, at every depth, each as often as it is met."""
    found = [thing] if isinstance(thing, list) else []
    if isinstance(thing, (list, tuple)):
        for part in thing:
            found += lists_within(part)
    return found


class Case(unittest.TestCase):
    def raises(self, error, value, deed, *arguments, **named):
        """Tells the error, which has this value and is of no class below."""
        with self.assertRaises(error) as caught:
            deed(*arguments, **named)
        self.assertIs(type(caught.exception), error)
        self.assertEqual(caught.exception.value, value)
        self.assertIs(type(caught.exception.value), type(value))
        return caught.exception

    def same(self, tariff, signs, worth, size, length=4):
        """Looks at a tariff message by message, and at its form."""
        self.assertIs(type(tariff), Tariff)
        self.assertEqual(tariff.signs, signs)
        for message in messages_to(signs, length):
            self.assertEqual(tariff(message), pair_of(worth(message)), message)
        self.assertEqual(form_told(tariff), form_by(signs, size, kept(worth)))

    def apart(self, one, other):
        """Looks whether two answers are alike, and have no list in common, and none twice."""
        self.assertEqual(one, other)
        lists = lists_within(one) + lists_within(other)
        self.assertEqual(len({id(each) for each in lists}), len(lists))
