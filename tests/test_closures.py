import random
import unittest
from fractions import Fraction
from itertools import combinations

from plain import form_by, form_told, kept, messages_to, pair_of, some_parts, told, worth_of, worths_of
from textworths.closures import (
    again, all_alike, before, behind, each, just, led, lengths, only, places, plus, powers, rest, scaled, shuffled,
    spelled, turned, undone, within,
)
from textworths.errors import Endless, InvalidBook, InvalidNumber, InvalidSigns, UnknownSign, UnlikeSigns
from textworths.machines import Machine
from textworths.tariffs import Tariff, first_apart, free_ones, machine_of, tariff_of, told_by

ONE, NONE, HALF = (1, 1), (0, 1), (1, 2)
WRONG_NUMBERS = [(2, 4), (0, 2), (1, 0), (0, 0), (1, -1), (-3, -2)]
WRONG_SIGNS = ["", "ba", "aab", "aB", "a b", "a1", "\u00e4"]


def nothing(signs="ab"):
    return Tariff(signs, [], [], [])


def cuts(message):
    return [(message[:at], message[at:]) for at in range(len(message) + 1)]


class Case(unittest.TestCase):
    """What is told of a tariff: its worths one by one, and its form by these."""

    def same(self, tariff, signs, worth, size, length=4):
        self.assertIsInstance(tariff, Tariff)
        self.assertEqual(tariff.signs, signs)
        for message in messages_to(signs, length):
            self.assertEqual(tariff(message), pair_of(worth(message)), message)
        self.assertEqual(form_told(tariff), form_by(signs, size, kept(worth)))
        self.assertEqual(Tariff(signs, *form_told(tariff)), tariff)

    def raises(self, error, value, deed, *arguments, **named):
        with self.assertRaises(error) as caught:
            deed(*arguments, **named)
        self.assertIs(type(caught.exception), error)
        self.assertEqual(caught.exception.value, value)
        return caught.exception

    def some(self, source, signs, size, digits=1):
        """A tariff of a machine of so many states, and its worths."""
        parts = some_parts(source, signs, size, source.randint(0, 2 * size), digits)
        return tariff_of(Machine(signs, *parts)), worths_of(parts)

    def whole(self, source, signs, size):
        """A tariff of small whole numbers, and its worths."""
        numbers = [NONE, ONE, ONE, (2, 1), (-1, 1)]
        roads = [(source.randrange(size), source.choice(signs), source.randrange(size), source.choice(numbers))
                 for _ in range(source.randint(0, 2 * size) if size else 0)]
        parts = ([source.choice(numbers) for _ in range(size)], roads, [source.choice(numbers) for _ in range(size)])
        return tariff_of(Machine(signs, *parts)), worths_of(parts)

    def pairs(self, seed, many=25, sizes=(0, 1, 2, 2, 3)):
        source = random.Random(seed)
        for _ in range(many):
            signs = source.choice(["a", "ab", "ab", "xyz"])
            make = source.choice([self.some, self.whole])
            one, f = make(source, signs, source.choice(sizes))
            other, g = make(source, signs, source.choice(sizes))
            yield signs, one, f, other, g


class Sums(Case):
    def test_plus(self):
        for signs, one, f, other, g in self.pairs(31):
            self.same(plus(one, other), signs, lambda m: f(m) + g(m), len(one) + len(other))
        self.assertEqual(plus(one=lengths("ab"), other=nothing()), lengths("ab"))
        self.assertEqual(plus(places("ab", "a"), places("ab", "b")), lengths("ab"))
        self.assertEqual(plus(lengths("ab"), scaled(lengths("ab"), (-1, 1))), nothing())

    def test_scaled(self):
        for signs, one, f, _, _ in self.pairs(32):
            for number in (ONE, (-2, 3), NONE, (123456789, 1000)):
                self.same(scaled(one, number), signs, lambda m: told(number) * f(m), len(one), 3)
        self.assertEqual(scaled(number=NONE, one=lengths("ab")), nothing())
        self.assertEqual(scaled(nothing(), HALF), nothing())

    def test_each(self):
        for signs, one, f, other, g in self.pairs(33):
            self.same(each(one, other), signs, lambda m: f(m) * g(m), len(one) * len(other))
        self.assertEqual(each(other=lengths("ab"), one=nothing()), nothing())
        self.assertEqual(each(lengths("ab"), nothing()), nothing())
        self.assertEqual(each(lengths("ab"), all_alike("ab", ONE)), lengths("ab"))
        self.assertEqual(each(just("ab", "ab"), just("ab", "ba")), nothing())

    def test_errors(self):
        for deed in (plus, each, behind, shuffled, undone):
            for one, other in (("ab", "a"), ("a", "b"), ("ab", "abc")):
                self.raises(UnlikeSigns, other, deed, all_alike(one, ONE), all_alike(other, ONE))
                self.raises(UnlikeSigns, other, deed, other=nothing(other), one=nothing(one))
        for wrong in WRONG_NUMBERS:
            self.raises(InvalidNumber, wrong, scaled, lengths("ab"), wrong)
            self.raises(InvalidNumber, wrong, scaled, number=wrong, one=nothing())


class Behind(Case):
    def test_behind(self):
        for signs, one, f, other, g in self.pairs(34):
            self.same(behind(one, other), signs, lambda m: sum((f(a) * g(b) for a, b in cuts(m)), Fraction(0)),
                      len(one) + len(other))
        self.assertEqual(behind(one=nothing(), other=lengths("ab")), nothing())
        self.assertEqual(behind(other=nothing(), one=lengths("ab")), nothing())
        self.assertEqual(behind(just("ab", ""), lengths("ab")), lengths("ab"))
        self.assertEqual(behind(just("ab", "ab"), just("ab", "ba")), just("ab", "abba"))

    def test_again(self):
        for signs, one, f, other, g in self.pairs(35, 30):
            # What is 0 at the empty message.
            proper = plus(one, scaled(just(signs, ""), (-one("")[0], one("")[1])))

            def worth(message):
                if message == "":
                    return Fraction(1)
                return sum((f(message[:at]) * worth(message[at:]) for at in range(1, len(message) + 1)), Fraction(0))

            self.same(again(proper), signs, kept(worth), len(proper) + 1)
        self.assertEqual(again(nothing()), just("ab", ""))
        self.assertEqual(again(one=just("a", "a")), all_alike("a", ONE))
        self.assertEqual(again(just("ab", "ab"))("abab"), ONE)

    def test_again_against_all_cuts(self):
        one = plus(plus(just("ab", "a"), scaled(just("ab", "ab"), HALF)), scaled(just("ab", "b"), (-3, 1)))
        told_again = again(one)
        for message in messages_to("ab", 6):
            worth = Fraction(0)
            inner = range(1, len(message))
            for many in range(len(message) + 1):
                for chosen in combinations(inner, many):
                    borders = [0, *chosen, len(message)]
                    product = Fraction(1)
                    for first, last in zip(borders, borders[1:]):
                        product *= told(one(message[first:last]))
                    worth += product
            self.assertEqual(told_again(message), pair_of(worth) if message else ONE)

    def test_again_of_what_has_no_end(self):
        for one in (just("ab", ""), all_alike("ab", HALF), plus(lengths("a"), just("a", ""))):
            error = self.raises(Endless, one, again, one)
            self.assertIs(error.value, one)
            self.raises(Endless, one, again, one=one)
        self.assertEqual(again(plus(all_alike("a", ONE), scaled(just("a", ""), (-1, 1))))("aaa"), (4, 1))

    def test_undone(self):
        checked = 0
        for signs, one, f, other, g in self.pairs(36, 40):
            if g("") == 0:
                error = self.raises(Endless, other, undone, one, other)
                self.assertIs(error.value, other)
                continue
            checked += 1

            def worth(message):
                made = sum((worth(a) * g(b) for a, b in cuts(message)[:-1]), Fraction(0))
                return (f(message) - made) / g("")

            made = undone(one, other)
            self.same(made, signs, kept(worth), len(one) + len(other))
            self.assertEqual(behind(made, other), one)
        self.assertGreater(checked, 10)

    def test_undone_both_ways(self):
        count = 0
        for signs, one, f, other, g in self.pairs(37, 40):
            if g("") != 0:
                count += 1
                self.assertEqual(undone(behind(one, other), other), one)
                self.assertEqual(behind(undone(one, other), other), one)
                self.assertEqual(undone(other, other), just(signs, ""))
        self.assertGreater(count, 10)
        self.assertEqual(undone(one=nothing(), other=just("ab", "")), nothing())
        self.raises(Endless, nothing(), undone, lengths("ab"), nothing())
        self.raises(UnlikeSigns, "a", undone, lengths("ab"), lengths("a"))
        # Put behind it is not put ahead of it.
        other = plus(just("ab", ""), just("ab", "b"))
        self.assertEqual(undone(behind(just("ab", "a"), other), other), just("ab", "a"))
        self.assertNotEqual(undone(behind(other, just("ab", "a")), other), just("ab", "a"))

    def test_again_and_undone(self):
        # Again is what undoes 1 less it.
        for signs, one, f, _, _ in self.pairs(38):
            proper = plus(one, scaled(just(signs, ""), (-one("")[0], one("")[1])))
            less = plus(just(signs, ""), scaled(proper, (-1, 1)))
            self.assertEqual(again(proper), undone(just(signs, ""), less))
            self.assertEqual(behind(less, again(proper)), just(signs, ""))
            self.assertEqual(behind(again(proper), less), just(signs, ""))

    def test_powers(self):
        for signs, one, f, _, _ in self.pairs(39, 10, (0, 1, 2)):
            wanted = just(signs, "")
            for times in range(5):
                self.assertEqual(powers(one, times), wanted)
                self.assertEqual(form_told(powers(times=times, one=one)), form_told(wanted))
                wanted = behind(wanted, one)

    def test_powers_to_40(self):
        ones = all_alike("ab", ONE)
        wanted = just("ab", "")
        for times in range(41):
            found = powers(ones, times)
            self.assertEqual(found, wanted)
            self.assertEqual(len(found), max(times, 1))
            wanted = behind(wanted, ones)
        self.assertEqual(powers(just("ab", "b"), 40), just("ab", "b" * 40))
        self.assertEqual(powers(just("a", ""), 40), just("a", ""))
        self.assertEqual(powers(scaled(just("a", ""), (2, 3)), 40), scaled(just("a", ""), (2 ** 40, 3 ** 40)))
        self.assertEqual(powers(nothing(), 0), just("ab", ""))
        self.assertEqual(powers(nothing(), 1), nothing())
        self.assertEqual(powers(nothing(), 40), nothing())
        twice = plus(just("ab", ""), just("ab", "a"))
        self.assertEqual(powers(twice, 30)("a" * 15), (155117520, 1))

    def test_powers_errors(self):
        for times in (-1, -40):
            self.raises(InvalidNumber, times, powers, lengths("ab"), times)
            self.raises(InvalidNumber, times, powers, times=times, one=nothing())


class Shuffled(Case):
    def test_shuffled(self):
        for signs, one, f, other, g in self.pairs(41):
            def worth(message):
                found = Fraction(0)
                for many in range(len(message) + 1):
                    for chosen in combinations(range(len(message)), many):
                        here = "".join(message[at] for at in chosen)
                        elsewhere = "".join(sign for at, sign in enumerate(message) if at not in chosen)
                        found += f(here) * g(elsewhere)
                return found

            self.same(shuffled(one, other), signs, kept(worth), len(one) * len(other), 3)
            self.assertEqual(shuffled(one, other), shuffled(other, one))
        self.assertEqual(shuffled(one=just("ab", ""), other=lengths("ab")), lengths("ab"))
        self.assertEqual(shuffled(lengths("ab"), nothing()), nothing())
        self.assertEqual(shuffled(just("a", "aa"), just("a", "aaa")), scaled(just("a", "aaaaa"), (10, 1)))

    def test_within(self):
        for signs, one, f, _, _ in self.pairs(42):
            def worth(message):
                ends = range(len(message) + 1)
                return sum((f(message[first:last]) for first in ends for last in ends if first <= last), Fraction(0))

            self.same(within(one), signs, kept(worth), len(one) + 2)
        self.assertEqual(within(one=just("ab", ""))("ab"), (3, 1))
        self.assertEqual(within(just("ab", "ab")), places("ab", "ab"))
        self.assertEqual(within(nothing()), nothing())

    def test_turned(self):
        for signs, one, f, _, _ in self.pairs(43):
            self.same(turned(one), signs, lambda m: f(m[::-1]), len(one))
            self.assertEqual(turned(turned(one)), one)
            self.assertEqual(len(turned(one)), len(one))
        self.assertEqual(turned(one=nothing()), nothing())
        self.assertEqual(turned(just("abc", "abc")), just("abc", "cba"))


class Rests(Case):
    def test_rest(self):
        for signs, one, f, _, _ in self.pairs(44, 15):
            for message in messages_to(signs, 2):
                self.same(rest(one, message), signs, lambda m: f(message + m), len(one), 2)
            self.assertEqual(rest(one, ""), one)
        self.assertEqual(rest(message="a", one=places("ab", "ab"))("bab"), (2, 1))
        self.assertEqual(rest(just("ab", "ab"), "b"), nothing())
        self.assertEqual(rest(nothing(), "abab"), nothing())

    def test_before(self):
        for signs, one, f, _, _ in self.pairs(45, 15):
            for message in messages_to(signs, 2):
                self.same(before(one, message), signs, lambda m: f(m + message), len(one), 2)
            self.assertEqual(before(one, ""), one)
            self.assertEqual(before(one, signs), turned(rest(turned(one), signs[::-1])))
        self.assertEqual(before(message="b", one=places("ab", "ab"))("aba"), (2, 1))
        self.assertEqual(before(just("ab", "ab"), "ab"), just("ab", ""))
        self.assertEqual(before(just("ab", "ab"), "a"), nothing())

    def test_long_messages(self):
        source = random.Random(46)
        one, f = self.some(source, "ab", 3)
        message = "".join(source.choice("ab") for _ in range(50))
        self.assertEqual(rest(one, message)("ab"), pair_of(f(message + "ab")))
        self.assertEqual(before(one, message)("ab"), pair_of(f("ab" + message)))

    def test_unknown_signs(self):
        for deed in (rest, before):
            for message, sign in (("c", "c"), ("abxay", "x"), ("a b", " "), ("A", "A")):
                self.raises(UnknownSign, sign, deed, lengths("ab"), message)
                self.raises(UnknownSign, sign, deed, message=message, one=nothing())

    def test_only(self):
        for signs, one, f, _, _ in self.pairs(47):
            for chosen in messages_to(signs, 3)[1:]:
                if list(chosen) == sorted(set(chosen)):
                    self.same(only(one, chosen), signs,
                              lambda m: f(m) if set(m) <= set(chosen) else Fraction(0), len(one), 3)
            self.assertEqual(only(one, signs), one)
        self.assertEqual(only(signs="b", one=lengths("ab"))("bb"), (2, 1))
        self.assertEqual(only(just("ab", ""), "a"), just("ab", ""))
        self.assertEqual(only(just("ab", "ab"), "a"), nothing())

    def test_only_errors(self):
        for signs in WRONG_SIGNS + ["c", "ac", "abc", "b" "a"]:
            self.raises(InvalidSigns, signs, only, lengths("ab"), signs)
            self.raises(InvalidSigns, signs, only, signs=signs, one=nothing())


class Led(Case):
    def test_led(self):
        source = random.Random(51)
        for signs, one, f, _, _ in self.pairs(52):
            over = source.choice(["a", "uv", "abc"])
            words = [source.choice(messages_to(signs, 2)) for _ in over]
            word = dict(zip(over, words))
            self.same(led(one, over, words), over, lambda m: f("".join(word[sign] for sign in m)), len(one), 3)

    def test_words(self):
        long = lengths("ab")
        self.assertEqual(led(long, "xyz", ["", "", ""]), nothing("xyz"))
        self.assertEqual(led(plus(long, just("ab", "")), "x", [""]), all_alike("x", ONE))
        self.assertEqual(led(words=["ab", "ab"], signs="xy", one=long), scaled(lengths("xy"), (2, 1)))
        self.assertEqual(led(long, "c", ["b"]), lengths("c"))
        self.assertEqual(led(long, "ab", ["b", "a"]), long)
        self.assertEqual(led(places("ab", "a"), "ab", ["b", "a"]), places("ab", "b"))
        self.assertEqual(led(nothing(), "x", ["ab"]), nothing("x"))
        self.assertEqual(led(long, "x", ["a" * 50])("xx"), (100, 1))

    def test_errors(self):
        long = lengths("ab")
        for signs in WRONG_SIGNS:
            self.raises(InvalidSigns, signs, led, long, signs, ["a", "c", ""])
        self.raises(UnknownSign, "c", led, long, "xy", ["abc", "ad"])
        self.raises(UnknownSign, "d", led, long, "xy", ["ab", "ad", "c"])
        self.raises(UnknownSign, "x", led, long, "xy", ["x"])
        for words in ([], ["a"], ["a", "b", ""], ["", "", "", ""]):
            held = list(words)
            error = self.raises(InvalidBook, words, led, long, "xy", held)
            self.assertIsNot(error.value, held)
            self.assertEqual(held, words)
        self.raises(InvalidBook, ["a"], led, words=["a"], signs="xy", one=nothing())
        self.raises(InvalidSigns, "yx", led, long, "yx", ["c"])

    def test_spelled(self):
        source = random.Random(53)
        for signs, one, f, _, _ in self.pairs(54, 30, (0, 1, 2)):
            over = source.choice(["a", "uv", "uv"])
            words = [source.choice(messages_to(over, 3)[1:]) for _ in signs]

            def worth(text, begun=""):
                found = f(begun) if text == "" else Fraction(0)
                for sign, word in zip(signs, words):
                    if text.startswith(word):
                        found += worth(text[len(word):], begun + sign)
                return found

            size = len(one) * (1 + sum(len(word) - 1 for word in words))
            self.same(spelled(one, over, words), over, kept(worth), min(size, 7 if over == "a" else 6), 5)

    def test_spelled_words(self):
        ones = all_alike("ab", ONE)
        self.assertEqual(spelled(ones, "c", ["c", "c"])("ccc"), (8, 1))
        self.assertEqual(spelled(words=["c", "cc"], signs="c", one=ones)("cccc"), (5, 1))
        self.assertEqual(spelled(places("ab", "a"), "xy", ["xy", "xy"])("xyxy"), (4, 1))
        less = plus(just("ab", "a"), scaled(just("ab", "b"), (-1, 1)))
        self.assertEqual(spelled(less, "x", ["x", "x"]), nothing("x"))
        self.assertEqual(spelled(nothing(), "x", ["xx", "x"]), nothing("x"))
        self.assertEqual(spelled(just("ab", "ab"), "xyz", ["xyz", "zx"]), just("xyz", "xyzzx"))
        self.assertEqual(spelled(just("ab", ""), "x", ["xxx", "xx"]), just("x", ""))
        self.assertEqual(spelled(lengths("a"), "ab", ["abba"])("abbaabba"), (2, 1))

    def test_spelled_errors(self):
        ones = all_alike("ab", ONE)
        for signs in WRONG_SIGNS:
            self.raises(InvalidSigns, signs, spelled, ones, signs, ["", "q", ""])
        self.raises(UnknownSign, "a", spelled, ones, "xy", ["xya", "b", ""])
        self.raises(UnknownSign, "q", spelled, ones, "xy", ["", "xq"])
        for words in ([], ["x"], ["x", "y", ""], ["", "", ""]):
            held = list(words)
            error = self.raises(InvalidBook, words, spelled, ones, "xy", held)
            self.assertIsNot(error.value, held)
        for words in (["", "x"], ["x", ""], ["", ""]):
            held = list(words)
            error = self.raises(Endless, words, spelled, ones, "xy", held)
            self.assertIsNot(error.value, held)
            self.assertEqual(held, words)
        self.raises(Endless, ["x", ""], spelled, words=["x", ""], signs="x", one=nothing())

    def test_led_takes_spelled_back(self):
        source = random.Random(55)
        for words in (["a", "ab", "bb"], ["a", "ba", "bb"], ["ab", "b", "aa"]):
            one, f = self.some(source, "xyz", 2)
            there = spelled(one, "ab", words)
            self.assertEqual(led(there, "xyz", words), one)
            back = spelled(led(there, "xyz", words), "ab", words)
            self.assertEqual(back, there)
        one, f = self.some(source, "ab", 2)
        ones = all_alike("xyz", ONE)
        code = ["a", "ab", "bb"]
        self.assertEqual(spelled(led(one, "xyz", code), "ab", code), each(one, spelled(ones, "ab", code)))


class Plain(Case):
    def test_all_alike(self):
        for signs in ("a", "bz", "abc"):
            for number in (ONE, NONE, (-7, 3), (999999999, 10)):
                self.same(all_alike(signs, number), signs, lambda m: told(number), 1, 3)
        self.assertEqual(all_alike(number=NONE, signs="ab"), nothing())
        self.assertEqual(form_told(all_alike("a", HALF)), ([""], [[[ONE]]], [HALF]))

    def test_just(self):
        for signs in ("a", "bz", "abc"):
            for message in messages_to(signs, 3):
                self.same(just(signs, message), signs, lambda m: Fraction(int(m == message)), len(message) + 1, 4)
                self.assertEqual(len(just(signs, message)), len(message) + 1)
        self.assertEqual(just(message="ab", signs="ab")("ab"), ONE)

    def test_lengths(self):
        for signs in ("a", "bz", "abc"):
            self.same(lengths(signs), signs, lambda m: Fraction(len(m)), 2)
            self.assertEqual(lengths(signs=signs)(signs * 10), (10 * len(signs), 1))

    def test_places(self):
        for signs in ("a", "bz", "abc"):
            for part in messages_to(signs, 3)[1:]:
                def worth(message):
                    return Fraction(sum(message.startswith(part, at) for at in range(len(message))))

                self.same(places(signs, part), signs, worth, len(part) + 2)
        self.assertEqual(places("a", "aa")("aaaaa"), (4, 1))
        self.assertEqual(places(part="aba", signs="ab")("abababa"), (3, 1))
        self.assertEqual(places("ab", "ba" * 15)("ba" * 20), (6, 1))

    def test_wrong_numbers_and_signs(self):
        for signs in WRONG_SIGNS:
            self.raises(InvalidSigns, signs, all_alike, signs, ONE)
            self.raises(InvalidSigns, signs, just, signs, "q")
            self.raises(InvalidSigns, signs, lengths, signs)
            self.raises(InvalidSigns, signs, places, signs, "")
            self.raises(InvalidSigns, signs, places, signs, "q")
            for wrong in WRONG_NUMBERS:
                # The numbers stand ahead of the signs in the list of errors.
                self.raises(InvalidNumber, wrong, all_alike, signs, wrong)
        for wrong in WRONG_NUMBERS:
            self.raises(InvalidNumber, wrong, all_alike, number=wrong, signs="ab")

    def test_wrong_messages(self):
        for deed, name in ((just, "message"), (places, "part")):
            for message, sign in (("c", "c"), ("abxay", "x"), ("a b", " "), ("A", "A")):
                self.raises(UnknownSign, sign, deed, "ab", message)
                self.raises(UnknownSign, sign, deed, **{"signs": "ab", name: message})
        self.raises(Endless, "", places, "ab", "")
        self.raises(Endless, "", places, part="", signs="a")


class Guarantees(Case):
    def test_arguments_do_not_change(self):
        source = random.Random(61)
        one, f = self.some(source, "ab", 3)
        other = plus(lengths("ab"), just("ab", ""))
        forms = [form_told(one), form_told(other)]
        words = ["ab", "b"]
        deeds = [lambda: plus(one, other), lambda: scaled(one, HALF), lambda: each(one, other),
                 lambda: behind(one, other), lambda: again(lengths("ab")), lambda: undone(one, other),
                 lambda: shuffled(one, other), lambda: within(one), lambda: turned(one), lambda: rest(one, "ab"),
                 lambda: before(one, "ab"), lambda: led(one, "xy", words), lambda: spelled(one, "ab", words),
                 lambda: only(one, "a"), lambda: powers(one, 3), lambda: places("ab", "ab")]
        first = [form_told(deed()) for deed in deeds]
        for refused in (lambda: again(other), lambda: undone(one, lengths("ab")), lambda: led(one, "x", words),
                        lambda: rest(one, "abx"), lambda: plus(one, lengths("a")), lambda: spelled(one, "a", words)):
            self.assertRaises(ValueError, refused)
        words_now = list(words)
        self.assertEqual([form_told(deed()) for deed in reversed(deeds)], first[::-1])
        self.assertEqual(words, words_now)
        self.assertEqual([form_told(one), form_told(other)], forms)

    def test_no_words_are_kept(self):
        words = ["ab", "b"]
        there, back = led(lengths("ab"), "xy", words), spelled(lengths("xy"), "ab", words)
        words[0] = "b"
        words.pop()
        self.assertEqual([there("xyx"), back("abb")], [(5, 1), (2, 1)])

    def test_results_are_new(self):
        one = lengths("ab")
        for made in (plus(one, nothing()), scaled(one, ONE), rest(one, ""), only(one, "ab"), powers(one, 1)):
            table = made.table
            table[0][0].clear()
            self.assertEqual(made, one)
            self.assertEqual(made.table, one.table)

    def test_greater_sizes(self):
        # Twelve heads and twelve heads: what stands on the way has 144 states.
        grown, found = powers(all_alike("ab", ONE), 12), places("ab", "ab" * 5 + "a")
        self.assertEqual([len(grown), len(found)], [12, 12])
        squares = each(grown, grown)
        self.assertEqual(len(squares), 23)
        mixed = shuffled(grown, grown)
        self.assertEqual(len(mixed), 23)
        for message in ("", "a", "abab", "ab" * 12):
            worth = told(grown(message))
            self.assertEqual(squares(message), pair_of(worth * worth))
            self.assertEqual(mixed(message), pair_of(sum(
                (told(grown("a" * at)) * told(grown("a" * (len(message) - at))) * self.choices(len(message), at)
                 for at in range(len(message) + 1)), Fraction(0))))
        self.assertEqual(each(found, found)("ab" * 12), (49, 1))
        self.assertIsNone(first_apart(behind(grown, found), behind(powers(all_alike("ab", ONE), 6),
                                                                   behind(powers(all_alike("ab", ONE), 6), found))))

    def choices(self, many, chosen):
        found = 1
        for at in range(chosen):
            found = found * (many - at) // (at + 1)
        return found

    def test_nine_digits(self):
        source = random.Random(62)
        parts = some_parts(source, "ab", 4, 16, 9)
        one = tariff_of(Machine("ab", *parts))
        worth = worths_of(parts)
        squares, back = each(one, one), turned(one)
        self.assertEqual([len(squares), len(back)], [10, 4])
        for message in messages_to("ab", 5):
            self.assertEqual(squares(message), pair_of(worth(message) ** 2))
            self.assertEqual(back(message), pair_of(worth(message[::-1])))
        made = behind(one, all_alike("ab", HALF))
        self.assertEqual(undone(made, all_alike("ab", HALF)), one)

    def test_totals_of_parts(self):
        # The ways of a code book that can be read in one way are their own product.
        ones = all_alike("xyz", ONE)
        one_way = spelled(ones, "ab", ["a", "ab", "bb"])
        self.assertEqual(each(one_way, one_way), one_way)
        twofold = spelled(all_alike("xy", ONE), "a", ["a", "aa"])
        self.assertNotEqual(each(twofold, twofold), twofold)
        self.assertEqual(free_ones([one_way, each(one_way, one_way)]), [0])
        self.assertEqual(told_by(one_way, [each(one_way, one_way)]), [ONE])

    def test_worths_by_machines(self):
        for signs, one, f, other, g in self.pairs(63, 10):
            machine = machine_of(behind(one, other))
            for message in messages_to(signs, 3):
                self.assertEqual(machine(message), pair_of(sum((f(a) * g(b) for a, b in cuts(message)), Fraction(0))))
                self.assertEqual(machine(message), worth_of(machine.begin, machine.roads, machine.end, message))


if __name__ == "__main__":
    unittest.main()
