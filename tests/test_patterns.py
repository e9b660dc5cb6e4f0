import random
import unittest

from plain import form_by, form_told, kept, messages_to, pair_of
from plain_patterns import ANY, EMPTY, NEVER, count, endless, right_pattern, signs_read, some_pattern
from textworths.closures import again, all_alike, behind, each, just, lengths, only, places, plus, scaled
from textworths.errors import Endless, InvalidNumber, InvalidPattern, InvalidSigns, UnknownSign
from textworths.patterns import (
    first_double, first_fit_apart, is_single, least_fit, readings, same_messages, same_ways, ways, without,
)
from textworths.tariffs import Tariff

ONE, NONE, HALF = (1, 1), (0, 1), (1, 2)
A, B, C = ("sign", "a"), ("sign", "b"), ("sign", "c")
MANY_ANY = ("many", ANY)
WEIGHED = ("weigh", HALF, A)
WRONG_NUMBERS = [(2, 4), (0, 2), (1, 0), (0, 0), (1, -1), (-3, -2)]
WRONG_SIGNS = ["", "ba", "aab", "aB", "a b", "a1", "\u00e4"]


class Case(unittest.TestCase):
    def raises(self, error, value, deed, *arguments, **named):
        with self.assertRaises(error) as caught:
            deed(*arguments, **named)
        self.assertIs(type(caught.exception), error)
        self.assertEqual(caught.exception.value, value)

    def patterns(self, seed, many, weighed=False, most=10):
        source = random.Random(seed)
        for _ in range(many):
            signs = source.choice(["a", "ab", "ab", "abc"])
            yield signs, right_pattern(source, signs, source.randint(1, most), weighed)


class Ways(Case):
    def same(self, signs, pattern, length=5):
        tariff = ways(signs, pattern)
        worth = kept(count(signs, pattern))
        self.assertIsInstance(tariff, Tariff)
        self.assertEqual(tariff.signs, signs)
        for message in messages_to(signs, length):
            self.assertEqual(tariff(message), pair_of(worth(message)), (pattern, message))
        return tariff

    def test_each_kind(self):
        for signs in ("a", "ab", "abc"):
            self.assertEqual(ways(signs, A), just(signs, "a"))
            self.assertEqual(ways(signs, ("sign", signs[-1])), just(signs, signs[-1]))
            self.assertEqual(ways(signs, EMPTY), just(signs, ""))
            self.assertEqual(ways(signs, NEVER), all_alike(signs, NONE))
            self.assertEqual(ways(signs, MANY_ANY), all_alike(signs, ONE))
            singles = ways(pattern=ANY, signs=signs)
            for message in messages_to(signs, 3):
                self.assertEqual(singles(message), (int(len(message) == 1), 1))
        self.assertEqual(ways("ab", ("then", A, B)), just("ab", "ab"))
        self.assertEqual(ways("ab", ("or", A, A)), scaled(just("ab", "a"), (2, 1)))
        self.assertEqual(ways("ab", ("weigh", (-2, 3), A)), scaled(just("ab", "a"), (-2, 3)))
        self.assertEqual(ways("ab", ("weigh", NONE, MANY_ANY)), all_alike("ab", NONE))
        self.assertEqual(ways("ab", ("many", NEVER)), just("ab", ""))
        self.assertEqual(ways("ab", ("then", MANY_ANY, ("then", A, MANY_ANY))), places("ab", "a"))

    def test_parts(self):
        for signs, one in self.patterns(81, 25, True, 5):
            for _, other in [(signs, EMPTY), (signs, ("sign", signs[0])), (signs, one), (signs, MANY_ANY)]:
                f, g = ways(signs, one), ways(signs, other)
                self.assertEqual(ways(signs, ("then", one, other)), behind(f, g))
                self.assertEqual(ways(signs, ("or", one, other)), plus(f, g))
                self.assertEqual(ways(signs, ("weigh", (-3, 7), one)), scaled(f, (-3, 7)))
            if f("") == NONE:
                self.assertEqual(ways(signs, ("many", one)), again(f))

    def test_many_patterns(self):
        for weighed in (False, True):
            for signs, pattern in self.patterns(82, 60, weighed):
                tariff = self.same(signs, pattern, 4)
                size = signs_read(pattern) + 1
                self.assertLessEqual(len(tariff), size)
                if size < 5:
                    worth = kept(count(signs, pattern))
                    self.assertEqual(form_told(tariff), form_by(signs, size, worth))

    def test_five_deep_and_ten_parts(self):
        deep = ("many", ("then", ("or", ("then", A, B), ("many", A)), ("then", ("or", B, ("then", A, B)), ANY)))
        self.same("ab", deep, 6)
        row = ("then", ("then", ("or", A, B), ("or", ANY, ("then", A, A))), ("many", ("or", B, ("then", A, B))))
        self.same("ab", row, 6)
        self.same("abc", ("or", ("many", ("then", A, ("many", B))), ("many", ("or", C, ("then", B, ANY)))), 5)

    def test_many_of_ways_that_cancel(self):
        less = ("weigh", (-1, 1), EMPTY)
        proper = ("or", ("many", A), less)
        self.assertEqual(ways("a", ("many", proper))("aaaa"), (8, 1))
        self.same("ab", ("many", proper))
        self.same("ab", ("many", ("or", ("or", EMPTY, ("then", A, B)), less)))
        self.same("ab", ("many", ("or", ("weigh", HALF, ("or", EMPTY, EMPTY)), ("or", less, ANY))))
        self.same("ab", ("many", ("weigh", NONE, MANY_ANY)))
        self.same("ab", ("many", ("then", ("weigh", NONE, EMPTY), MANY_ANY)))
        self.same("ab", ("many", ("or", ("many", proper), less)))
        self.raises(Endless, ("or", proper, EMPTY), ways, "ab", ("many", ("or", proper, EMPTY)))

    def test_readings(self):
        for signs, pattern in self.patterns(83, 50):
            worth = kept(count(signs, pattern))
            for message in messages_to(signs, 4):
                found = readings(signs, pattern, message)
                self.assertIs(type(found), int)
                self.assertEqual(found, worth(message))
        self.assertEqual(readings(message="aba", pattern=MANY_ANY, signs="ab"), 1)
        self.assertEqual(readings("ab", ("then", MANY_ANY, ("then", A, MANY_ANY)), "ab" * 200), 200)
        self.assertEqual(readings("a", ("many", ("or", A, A)), "a" * 400), 2 ** 400)
        self.assertEqual(readings("a", ("or", EMPTY, ("or", EMPTY, EMPTY)), ""), 3)
        self.assertEqual(readings("ab", NEVER, ""), 0)

    def test_without(self):
        for weighed in (False, True):
            for signs, pattern in self.patterns(84, 30, weighed, 7):
                tariff = ways(signs, pattern)
                for sign in signs:
                    found = without(signs, pattern, sign)
                    self.assertIsInstance(found, Tariff)
                    for message in messages_to(signs, 4):
                        self.assertEqual(found(message), NONE if sign in message else tariff(message))
                    if len(signs) > 1:
                        self.assertEqual(found, only(tariff, signs.replace(sign, "")))
        self.assertEqual(without("a", MANY_ANY, "a"), just("a", ""))
        self.assertEqual(without("a", A, "a"), all_alike("a", NONE))
        self.assertEqual(without(sign="b", pattern=MANY_ANY, signs="ab")("aa"), ONE)

    def test_least_fit(self):
        for weighed in (False, True):
            for signs, pattern in self.patterns(85, 60, weighed):
                worth = kept(count(signs, pattern))
                size = min(signs_read(pattern), 6)
                wanted = next((message for message in messages_to(signs, size) if worth(message)), None)
                self.assertEqual(least_fit(signs, pattern), wanted)
        self.assertEqual(least_fit(pattern=("then", B, ("or", B, A)), signs="ab"), "ba")
        self.assertEqual(least_fit("ab", ("or", ("then", A, A), B)), "b")
        self.assertEqual(least_fit("ab", MANY_ANY), "")
        self.assertIsNone(least_fit("ab", NEVER))
        self.assertIsNone(least_fit("ab", ("then", A, NEVER)))
        less = ("weigh", (-1, 1), A)
        self.assertIsNone(least_fit("ab", ("or", A, less)))
        self.assertEqual(least_fit("ab", ("or", ("many", A), ("weigh", (-1, 1), MANY_ANY))), "b")


class Doubles(Case):
    def test_many(self):
        none = 0
        for signs, pattern in self.patterns(86, 150):
            worth = kept(count(signs, pattern))
            wanted = next((message for message in messages_to(signs, 5) if worth(message) > 1), None)
            found = first_double(signs, pattern)
            if wanted is None:
                none += 1
                # Where there is none at all, the ways are their own squares.
                tariff = ways(signs, pattern)
                self.assertEqual(found is None, each(tariff, tariff) == tariff)
                self.assertTrue(found is None or len(found) > 5 and worth(found) > 1)
            else:
                self.assertEqual(found, wanted)
            self.assertIs(is_single(signs, pattern), found is None)
        self.assertGreater(none, 20)

    def test_ordinary(self):
        twice = ("then", MANY_ANY, ("then", A, MANY_ANY))
        self.assertEqual(first_double("ab", twice), "aa")
        self.assertIs(is_single("ab", twice), False)
        self.assertIs(is_single(pattern=("many", ("or", A, B)), signs="ab"), True)
        self.assertIsNone(first_double(pattern=("many", ("or", A, B)), signs="ab"))
        self.assertEqual(first_double("ab", ("or", EMPTY, EMPTY)), "")
        self.assertEqual(first_double("ab", ("or", A, ("or", B, ANY))), "a")
        self.assertEqual(first_double("ab", ("or", ("or", B, A), ("or", B, EMPTY))), "b")
        self.assertIs(is_single("ab", NEVER), True)
        # The code words a, ab, ba have their first double late.
        code = ("many", ("or", A, ("or", ("then", A, B), ("then", B, A))))
        self.assertEqual(first_double("ab", code), "aba")
        code = ("many", ("or", A, ("or", ("then", A, B), ("then", B, B))))
        self.assertIsNone(first_double("ab", code))

    def test_late_doubles(self):
        fives = ("then", ("then", A, A), ("then", A, ("then", A, A)))
        pattern = ("or", ("many", fives), ("many", ("then", A, ("then", A, A))))
        self.assertEqual(first_double("a", pattern), "")
        pattern = ("or", ("then", A, ("many", fives)), ("then", A, ("many", ("then", A, ("then", A, A)))))
        self.assertEqual(first_double("a", pattern), "a")
        pattern = ("or", ("many", fives), ("then", ("then", A, A), ("many", ("then", A, ("then", A, A)))))
        self.assertEqual(first_double("a", pattern), "aaaaa")
        pattern = ("or", ("many", fives), ("then", A, ("many", ("then", A, ("then", A, A)))))
        self.assertEqual(first_double("a", pattern), "a" * 10)


class Pairs(Case):
    def test_many(self):
        alike = [0, 0]
        source = random.Random(87)
        for _ in range(200):
            signs = source.choice(["a", "ab", "abc"])
            one = right_pattern(source, signs, source.randint(1, 6))
            other = right_pattern(source, signs, source.randint(1, 6))
            f, g = kept(count(signs, one)), kept(count(signs, other))
            every = messages_to(signs, 6 if len(signs) < 3 else 5)
            wanted = next((message for message in every if (f(message) != 0) != (g(message) != 0)), None)
            found = first_fit_apart(signs, one, other)
            if found is None or len(found) <= len(every[-1]):
                self.assertEqual(found, wanted)
            else:
                self.assertIsNone(wanted)
                self.assertNotEqual(f(found) != 0, g(found) != 0)
            self.assertEqual(first_fit_apart(signs, other, one), found)
            self.assertIs(same_messages(signs, one, other), found is None)
            same = same_ways(signs, one, other)
            self.assertIs(same, ways(signs, one) == ways(signs, other))
            if any(f(message) != g(message) for message in every):
                self.assertIs(same, False)
            alike[0] += same
            alike[1] += found is None
        self.assertGreater(alike[0], 3)
        self.assertGreater(alike[1], alike[0])

    def test_same_ways(self):
        self.assertIs(same_ways("ab", MANY_ANY, ("many", ("or", A, B))), True)
        self.assertIs(same_ways("abc", MANY_ANY, ("many", ("or", A, B))), False)
        self.assertIs(same_ways(other=("or", A, A), one=A, signs="ab"), False)
        self.assertIs(same_ways("ab", ("weigh", (2, 1), A), ("or", A, A)), True)
        self.assertIs(same_ways("ab", ("or", A, ("weigh", (-1, 1), A)), NEVER), True)
        self.assertIs(same_ways("ab", ("or", MANY_ANY, ("weigh", (-1, 1), EMPTY)), ("then", ANY, MANY_ANY)), True)
        self.assertIs(same_ways("a", ("then", EMPTY, A), A), True)
        self.assertIs(same_ways("a", EMPTY, NEVER), False)

    def test_same_messages(self):
        twice = ("then", MANY_ANY, ("then", A, MANY_ANY))
        once = ("then", ("many", B), ("then", A, MANY_ANY))
        self.assertIs(same_messages("ab", twice, once), True)
        self.assertIs(same_ways("ab", twice, once), False)
        self.assertIs(same_messages("abc", twice, once), False)
        self.assertEqual(first_fit_apart("abc", twice, once), "ca")
        self.assertIs(same_messages(other=("or", A, A), one=A, signs="ab"), True)
        self.assertIs(same_messages("ab", NEVER, ("then", NEVER, A)), True)
        self.assertIs(same_messages("ab", NEVER, EMPTY), False)
        self.assertIsNone(first_fit_apart("a", ("many", A), ("or", EMPTY, ("then", A, ("many", A)))))

    def test_first_fit_apart(self):
        self.assertEqual(first_fit_apart("ab", ("many", A), MANY_ANY), "b")
        self.assertEqual(first_fit_apart("ab", MANY_ANY, ("many", A)), "b")
        self.assertEqual(first_fit_apart(other=EMPTY, one=NEVER, signs="ab"), "")
        self.assertEqual(first_fit_apart("ab", ("or", A, B), A), "b")
        self.assertEqual(first_fit_apart("a", ("many", ("then", A, A)), ("many", ("then", A, ("then", A, A)))), "aa")
        one = ("then", MANY_ANY, ("then", A, ("then", ANY, ANY)))
        self.assertEqual(first_fit_apart("ab", one, ("then", MANY_ANY, ("then", A, ("then", ANY, B)))), "aaa")
        fives = ("many", ("then", ("then", A, A), ("then", A, ("then", A, A))))
        self.assertEqual(first_fit_apart("a", ("or", fives, NEVER), ("or", fives, ("then", fives, fives))), None)


ONE_PATTERN = [
    lambda signs, pattern: ways(signs, pattern), lambda signs, pattern: readings(signs, pattern, "?"),
    lambda signs, pattern: is_single(signs, pattern), lambda signs, pattern: first_double(signs, pattern),
    lambda signs, pattern: without(signs, pattern, "?"), lambda signs, pattern: least_fit(signs, pattern),
    lambda signs, pattern: same_ways(signs, pattern, ("sign", "?")),
    lambda signs, pattern: same_ways(signs, A, pattern),
    lambda signs, pattern: same_messages(signs, pattern, ("many", EMPTY)),
    lambda signs, pattern: same_messages(signs, WEIGHED, pattern),
    lambda signs, pattern: first_fit_apart(signs, pattern, ("weigh", (2, 2), A)),
    lambda signs, pattern: first_fit_apart(signs, WEIGHED, pattern),
]


class Errors(Case):
    def refused(self, error, value, pattern, signs="ab"):
        for deed in ONE_PATTERN:
            self.raises(error, value, deed, signs, pattern)

    def test_signs(self):
        for signs in WRONG_SIGNS:
            self.refused(InvalidSigns, signs, ("sign", "?"), signs)
            self.refused(InvalidSigns, signs, ("many", ("weigh", (2, 2), EMPTY)), signs)

    def test_unknown_signs(self):
        for sign in ("c", "", "ab", "A", " ", "aa", "\u00e4"):
            wrong = ("sign", sign)
            for pattern in (wrong, ("then", A, wrong), ("or", wrong, ("sign", "z")), ("many", wrong),
                            ("weigh", HALF, wrong), ("many", ("or", EMPTY, wrong)),
                            ("then", ("many", EMPTY), wrong)):
                self.refused(UnknownSign, sign, pattern)

    def test_wrong_numbers(self):
        for wrong in WRONG_NUMBERS:
            for pattern in (("weigh", wrong, A), ("then", A, ("weigh", wrong, B)), ("weigh", wrong, ("sign", "c")),
                            ("many", ("weigh", wrong, EMPTY)), ("weigh", wrong, ("weigh", (9, 3), A)),
                            ("or", ("many", EMPTY), ("weigh", wrong, A))):
                self.refused(InvalidNumber, wrong, pattern)

    def test_one_walk(self):
        c, d, bad, worse = ("sign", "c"), ("sign", "d"), ("weigh", (2, 2), A), ("weigh", (3, 3), A)
        self.refused(UnknownSign, "c", ("then", c, d))
        self.refused(UnknownSign, "c", ("then", c, bad))
        self.refused(InvalidNumber, (2, 2), ("then", bad, c))
        self.refused(InvalidNumber, (2, 2), ("or", ("then", A, ("many", bad)), c))
        self.refused(UnknownSign, "d", ("or", ("then", A, ("many", d)), worse))
        self.refused(InvalidNumber, (5, 5), ("weigh", (5, 5), ("then", c, worse)))
        self.refused(UnknownSign, "c", ("weigh", HALF, ("then", c, worse)))
        self.refused(InvalidNumber, (3, 3), ("then", ("many", ("many", EMPTY)), worse))

    def test_endless(self):
        inner = ("or", EMPTY, A)
        self.refused(Endless, EMPTY, ("many", EMPTY))
        self.refused(Endless, inner, ("many", inner))
        self.refused(Endless, MANY_ANY, ("many", MANY_ANY))
        self.refused(Endless, ("then", MANY_ANY, inner), ("many", ("then", MANY_ANY, inner)))
        self.refused(Endless, inner, ("many", ("many", inner)))
        self.refused(Endless, ("many", A), ("many", ("many", A)))
        self.refused(Endless, inner, ("then", ("many", inner), ("many", EMPTY)))
        self.refused(Endless, EMPTY, ("then", ("many", A), ("many", EMPTY)))
        self.refused(Endless, EMPTY, ("or", ("many", ("then", A, ("many", EMPTY))), ("many", inner)))
        self.refused(Endless, inner, ("many", ("or", ("many", inner), ("many", EMPTY))))
        self.refused(Endless, ("weigh", HALF, EMPTY), ("many", ("weigh", HALF, EMPTY)))
        self.refused(Endless, ("weigh", (-1, 1), inner), ("weigh", HALF, ("many", ("weigh", (-1, 1), inner))))

    def test_weighed_patterns_that_have_an_end(self):
        inner = ("or", EMPTY, ("weigh", (-1, 1), EMPTY))
        self.assertEqual(ways("ab", ("many", inner)), just("ab", ""))
        self.assertEqual(least_fit("ab", ("many", inner)), "")
        self.assertIs(same_ways("ab", ("many", inner), EMPTY), True)

    def test_random_endless(self):
        source = random.Random(88)
        seen = 0
        for _ in range(300):
            pattern = some_pattern(source, "ab", source.randint(2, 10), True)
            wanted = endless("ab", pattern)
            if wanted is None:
                ways("ab", pattern)
            else:
                seen += 1
                self.raises(Endless, wanted, ways, "ab", pattern)
        self.assertGreater(seen, 60)

    def test_unknown_signs_of_messages(self):
        for message, sign in (("c", "c"), ("abxay", "x"), ("a b", " "), ("A", "A")):
            self.raises(UnknownSign, sign, readings, "ab", A, message)
            self.raises(UnknownSign, sign, readings, "ab", WEIGHED, message)
        for sign in ("c", "", "ab", "A", " "):
            self.raises(UnknownSign, sign, without, "ab", A, sign)
            self.raises(UnknownSign, sign, without, sign=sign, pattern=WEIGHED, signs="ab")
        self.raises(Endless, EMPTY, readings, "ab", ("many", EMPTY), "x")
        self.raises(UnknownSign, "q", readings, "ab", ("sign", "q"), "x")

    def test_patterns_with_weights(self):
        for pattern in (WEIGHED, ("then", A, WEIGHED), ("or", WEIGHED, B), ("many", WEIGHED), ("weigh", ONE, WEIGHED),
                        ("weigh", ONE, A), ("weigh", NONE, NEVER), ("or", ("many", ("then", B, WEIGHED)), A)):
            self.raises(InvalidPattern, pattern, readings, "ab", pattern, "ab")
            self.raises(InvalidPattern, pattern, is_single, "ab", pattern)
            self.raises(InvalidPattern, pattern, first_double, "ab", pattern)
            for deed in (same_messages, first_fit_apart):
                self.raises(InvalidPattern, pattern, deed, "ab", pattern, A)
                self.raises(InvalidPattern, pattern, deed, "ab", A, pattern)
                self.raises(InvalidPattern, pattern, deed, "ab", pattern, ("weigh", ONE, B))
                self.raises(InvalidPattern, ("weigh", ONE, B), deed, other=pattern, one=("weigh", ONE, B), signs="ab")
            self.assertIsInstance(ways("ab", pattern), Tariff)
            self.assertIsInstance(without("ab", pattern, "a"), Tariff)

    def test_first_pattern_ahead_of_the_other(self):
        c, bad, long = ("sign", "c"), ("weigh", (2, 2), A), ("many", EMPTY)
        for deed in (same_ways, same_messages, first_fit_apart):
            self.raises(Endless, EMPTY, deed, "ab", long, c)
            self.raises(UnknownSign, "c", deed, "ab", c, bad)
            self.raises(InvalidNumber, (2, 2), deed, "ab", bad, long)
            self.raises(InvalidNumber, (2, 2), deed, "ab", WEIGHED, bad)
            self.raises(Endless, MANY_ANY, deed, "ab", ("many", MANY_ANY), long)

    def test_nothing_changes(self):
        pattern = ("then", ("many", ("or", A, ("then", A, B))), ("or", B, EMPTY))
        first = [form_told(ways("ab", pattern)), first_double("ab", pattern), least_fit("ab", pattern)]
        for wrong in (("many", EMPTY), ("sign", "c"), ("weigh", (2, 2), A)):
            self.assertRaises(ValueError, ways, "ab", ("then", pattern, wrong))
        table = ways("ab", pattern).table
        table[0].clear()
        self.assertEqual([form_told(ways("ab", pattern)), first_double("ab", pattern), least_fit("ab", pattern)], first)

    def test_ways_of_lengths(self):
        self.assertEqual(ways("ab", ("then", MANY_ANY, ("then", ANY, MANY_ANY))), lengths("ab"))


if __name__ == "__main__":
    unittest.main()
