import random
import unittest
from fractions import Fraction

from cases import HALF, NONE, ONE, Case, nothing, some_tariff
from plain import form_told, messages_to, pair_of, sum_of, told
from textworths.closures import all_alike, each, just, lengths, places, plus, scaled, turned
from textworths.errors import InvalidNumber, UnknownSign, UnlikeSigns
from textworths.machines import Machine
from textworths.sums import (
    counted, first_out, first_total, first_unlike_total, last_out, mean, part_total, recurrence, total, totals,
)
from textworths.tariffs import tariff_of


def of_length(signs, length):
    return [message for message in messages_to(signs, length) if len(message) == length]


def sums_of(signs, worth, most):
    """The sums of the worths of all messages of each length to a bound."""
    return [sum((worth(message) for message in of_length(signs, length)), Fraction(0)) for length in range(most + 1)]


def by_states(parts, length):
    """A total by the sums at the states, length by length."""
    begin, roads, end = parts
    row = [told(entry) for entry in begin]
    for _ in range(length):
        behind = [Fraction(0)] * len(row)
        for state, _, goal, entry in roads:
            behind[goal] += row[state] * told(entry)
        row = behind
    return sum((above * told(entry) for above, entry in zip(row, end)), Fraction(0))


class Sums(Case):
    def tariffs(self, seed, many=40, sizes=(0, 1, 2, 2, 3, 3)):
        source = random.Random(seed)
        for _ in range(many):
            signs = source.choice(["a", "ab", "ab", "xyz"])
            tariff, worth = some_tariff(source, signs, source.choice(sizes))
            yield signs, tariff, worth

    def plainly_shortest(self, found):
        """The shortest list by which each of some totals follows from those ahead of it."""
        for size in range(len(found) // 2):
            rows = [found[size - back - 1:len(found) - back - 1] for back in range(size)]
            free = []
            for at, row in enumerate(rows):
                if sum_of([rows[one] for one in free], row) is None:
                    free.append(at)
            if len(free) < size:
                continue
            numbers = sum_of(rows, found[size:])
            if numbers is not None:
                return [pair_of(number) for number in numbers]
        return None


class Totals(Sums):
    def test_total(self):
        for signs, tariff, worth in self.tariffs(1):
            wanted = [pair_of(each_sum) for each_sum in sums_of(signs, worth, 5)]
            self.assertEqual([total(tariff, length) for length in range(6)], wanted)
            for many in range(7):
                self.assertEqual(totals(tariff, many), wanted[:many])
            self.assertEqual(totals(many=3, tariff=tariff), wanted[:3])
            self.assertEqual(total(length=2, tariff=tariff), wanted[2])

    def test_far_lengths(self):
        self.assertEqual(total(all_alike("abc", ONE), 200), (3 ** 200, 1))
        self.assertEqual(total(lengths("ab"), 200), (200 * 2 ** 200, 1))
        self.assertEqual(total(places("abc", "ab"), 200), (199 * 3 ** 198, 1))
        self.assertEqual(total(all_alike("ab", (-1, 3)), 199), (-2 ** 199, 3))
        self.assertEqual(total(just("ab", "ab" * 25), 50), ONE)
        self.assertEqual(total(just("ab", "ab" * 25), 200), NONE)
        found = totals(lengths("ab"), 201)
        self.assertEqual(found, [(length * 2 ** length, 1) for length in range(201)])
        source = random.Random(2)
        for _ in range(10):
            roads = [(source.randrange(3), source.choice("ab"), source.randrange(3), (source.randint(-9, 9), 1))
                     for _ in range(8)]
            parts = ([HALF, ONE, NONE], roads, [ONE, (-1, 3), (2, 1)])
            tariff = tariff_of(Machine("ab", *parts))
            for length in (20, 60, 200):
                self.assertEqual(total(tariff, length), pair_of(by_states(parts, length)))
                self.assertEqual(totals(tariff, length + 1)[-1], total(tariff, length))

    def test_nothing(self):
        self.assertEqual(total(nothing(), 0), NONE)
        self.assertEqual(total(nothing("a"), 200), NONE)
        self.assertEqual(totals(nothing(), 3), [NONE] * 3)
        self.assertEqual(totals(lengths("ab"), 0), [])
        self.assertEqual(mean(nothing("xyz"), 7), NONE)

    def test_mean(self):
        for signs, tariff, worth in self.tariffs(3, 20):
            for length, each_sum in enumerate(sums_of(signs, worth, 4)):
                self.assertEqual(mean(tariff, length), pair_of(each_sum / len(signs) ** length))
        self.assertEqual(mean(length=3, tariff=places("ab", "a")), (3, 2))
        self.assertEqual(mean(lengths("abc"), 200), (200, 1))
        self.assertEqual(mean(all_alike("a", HALF), 0), HALF)

    def test_part_total(self):
        for signs, tariff, worth in self.tariffs(4, 24):
            for sign in signs:
                for length in range(5):
                    for times in range(7):
                        wanted = sum((worth(message) for message in of_length(signs, length)
                                      if message.count(sign) == times), Fraction(0))
                        self.assertEqual(part_total(tariff, sign, times, length), pair_of(wanted))

    def test_far_part_totals(self):
        ones = all_alike("ab", ONE)
        self.assertEqual(part_total(ones, "a", 12, 24), (2704156, 1))
        self.assertEqual(part_total(length=24, times=0, sign="b", tariff=ones), ONE)
        self.assertEqual(part_total(ones, "b", 24, 24), ONE)
        self.assertEqual(part_total(ones, "b", 25, 24), NONE)
        self.assertEqual(part_total(ones, "b", 30, 0), NONE)
        self.assertEqual(part_total(all_alike("abc", HALF), "c", 12, 24), (2704156 * 2 ** 11, 1))
        self.assertEqual(part_total(lengths("abc"), "c", 24, 24), (24, 1))
        self.assertEqual(part_total(lengths("a"), "a", 24, 24), (24, 1))
        self.assertEqual(part_total(lengths("a"), "a", 23, 24), NONE)
        self.assertEqual(part_total(nothing(), "a", 2, 5), NONE)
        source = random.Random(5)
        for signs in ("ab", "abc"):
            tariff, _ = some_tariff(source, signs, 3)
            parts = [part_total(tariff, "b", times, 24) for times in range(26)]
            self.assertEqual(pair_of(sum(map(told, parts))), total(tariff, 24))


class Recurrences(Sums):
    def test_some(self):
        shorter = 0
        for at, (signs, one, _) in enumerate(self.tariffs(6, 60, (0, 1, 2, 3))):
            # Both ways round it has the same totals.
            tariff = plus(one, scaled(turned(one), HALF)) if at % 2 else one
            found = recurrence(tariff)
            self.assertLessEqual(len(found), len(tariff))
            shorter += len(found) < len(tariff)
            sums = [told(entry) for entry in totals(tariff, 2 * len(tariff) + 8)]
            for length in range(len(found), len(sums)):
                self.assertEqual(sums[length], sum((told(entry) * sums[length - back - 1]
                                                    for back, entry in enumerate(found)), Fraction(0)))
            self.assertEqual(found, self.plainly_shortest(sums))
        self.assertGreater(shorter, 3)

    def test_ordinary(self):
        self.assertEqual(recurrence(tariff=places("ab", "a")), [(4, 1), (-4, 1)])
        self.assertEqual(recurrence(all_alike("abc", HALF)), [(3, 1)])
        self.assertEqual(recurrence(all_alike("a", HALF)), [ONE])

    def test_all_totals_0(self):
        self.assertEqual(recurrence(nothing()), [])
        tariff = plus(places("ab", "a"), scaled(places("ab", "b"), (-1, 1)))
        self.assertEqual(len(tariff), 2)
        self.assertEqual(recurrence(tariff), [])
        self.assertIsNone(first_total(tariff))

    def test_first_totals_alone(self):
        self.assertEqual(recurrence(just("ab", "")), [NONE])
        self.assertEqual(recurrence(just("ab", "ab")), [NONE] * 3)
        self.assertEqual(recurrence(plus(just("ab", "aba"), all_alike("ab", ONE))), [(2, 1)] + [NONE] * 4)
        self.assertEqual(recurrence(plus(just("a", "aa"), just("a", ""))), [NONE] * 3)

    def test_shorter_than_the_size(self):
        self.assertEqual(recurrence(places("abc", "abcab")), [(6, 1), (-9, 1)] + [NONE] * 4)
        self.assertEqual(recurrence(just("ab", "a")), [NONE] * 2)
        tariff = plus(places("ab", "a"), scaled(places("ab", "b"), (2, 1)))
        self.assertEqual(recurrence(tariff), [(4, 1), (-4, 1)])
        tariff = plus(just("ab", "ab"), scaled(just("ab", "ba"), (-1, 1)))
        self.assertEqual(len(tariff), 4)
        self.assertEqual(recurrence(tariff), [])


class Firsts(Sums):
    def test_some(self):
        for signs, tariff, worth in self.tariffs(7, 60):
            sums = sums_of(signs, worth, 5)
            wanted = next((length for length, each_sum in enumerate(sums) if each_sum), None)
            self.assertEqual(first_total(tariff), wanted)

    def test_first_total(self):
        self.assertEqual(first_total(tariff=places("ab", "a")), 1)
        self.assertEqual(first_total(all_alike("ab", HALF)), 0)
        self.assertIsNone(first_total(nothing()))
        self.assertEqual(first_total(just("abc", "abcabcabc")), 9)
        tariff = plus(places("ab", "a"), scaled(places("ab", "b"), (-1, 1)))
        self.assertEqual(first_total(plus(tariff, just("ab", "abbab"))), 5)

    def test_unlike_totals(self):
        for (signs, one, f), (_, other, g) in zip(self.tariffs(8, 60), self.tariffs(9, 60)):
            if len(one.signs) != len(other.signs):
                self.raises(UnlikeSigns, other.signs, first_unlike_total, one, other)
                continue
            pairs = zip(sums_of(one.signs, f, 5), sums_of(other.signs, g, 5))
            wanted = next((length for length, (a, b) in enumerate(pairs) if a != b), None)
            self.assertEqual(first_unlike_total(one, other), wanted)
            self.assertEqual(first_unlike_total(other=one, one=other), wanted)
            self.assertIsNone(first_unlike_total(one, one))

    def test_other_signs(self):
        self.assertIsNone(first_unlike_total(places("ab", "a"), places("xy", "y")))
        self.assertIsNone(first_unlike_total(places("ab", "ab"), places("ab", "aa")))
        self.assertEqual(first_unlike_total(places("ab", "a"), lengths("yz")), 1)
        self.assertEqual(first_unlike_total(just("a", "aaa"), nothing("z")), 3)
        self.assertIsNone(first_unlike_total(just("abc", "ab"), just("xyz", "zz")))
        late = plus(all_alike("b", ONE), just("b", "b" * 9))
        self.assertEqual(first_unlike_total(all_alike("a", ONE), late), 9)

    def test_errors(self):
        for one, other in (("ab", "a"), ("a", "ab"), ("abc", "xy"), ("xy", "abc")):
            self.raises(UnlikeSigns, other, first_unlike_total, lengths(one), lengths(other))
            self.raises(UnlikeSigns, other, first_unlike_total, other=nothing(other), one=nothing(one))


class Closures(Sums):
    def test_counted(self):
        for signs, tariff, worth in self.tariffs(10, 20):
            for sign in signs:
                self.same(counted(tariff, sign), signs, lambda message: worth(message) * message.count(sign),
                          2 * len(tariff))
        self.assertEqual(counted(sign="a", tariff=all_alike("ab", ONE)), places("ab", "a"))
        self.assertEqual(counted(nothing(), "b"), nothing())
        self.assertEqual(counted(just("ab", "aba"), "a"), scaled(just("ab", "aba"), (2, 1)))

    def test_last_out(self):
        for signs, tariff, worth in self.tariffs(11, 30):
            self.same(last_out(tariff), signs,
                      lambda message: sum((worth(message + sign) for sign in signs), Fraction(0)), len(tariff))
        self.assertEqual(last_out(tariff=all_alike("ab", HALF)), all_alike("ab", ONE))
        self.assertEqual(last_out(nothing("a")), nothing("a"))
        self.assertEqual(last_out(just("ab", "ab")), just("ab", "a"))
        self.assertEqual(last_out(just("ab", "")), nothing())

    def test_first_out(self):
        for signs, tariff, worth in self.tariffs(12, 30):
            self.same(first_out(tariff), signs,
                      lambda message: sum((worth(sign + message) for sign in signs), Fraction(0)), len(tariff))
        self.assertEqual(first_out(tariff=all_alike("abc", HALF)), all_alike("abc", (3, 2)))
        self.assertEqual(first_out(nothing("a")), nothing("a"))
        self.assertEqual(first_out(just("ab", "ab")), just("ab", "b"))

    def test_totals_go_on(self):
        for signs, tariff, _ in self.tariffs(13, 20):
            self.assertEqual(totals(last_out(tariff), 5), totals(tariff, 6)[1:])
            self.assertEqual(totals(first_out(tariff), 5), totals(tariff, 6)[1:])


class Errors(Sums):
    def test_counts(self):
        for wrong in (-1, -2, -10 ** 9):
            for deed in (total, totals, mean):
                self.raises(InvalidNumber, wrong, deed, lengths("ab"), wrong)
                self.raises(InvalidNumber, wrong, deed, nothing(), wrong)
            self.raises(InvalidNumber, wrong, mean, length=wrong, tariff=lengths("ab"))
            self.raises(InvalidNumber, wrong, total, length=wrong, tariff=lengths("ab"))
            self.raises(InvalidNumber, wrong, totals, many=wrong, tariff=lengths("ab"))

    def test_part_totals(self):
        tariff = lengths("ab")
        self.raises(InvalidNumber, -1, part_total, tariff, "a", -1, 3)
        self.raises(InvalidNumber, -1, part_total, tariff, "a", 3, -1)
        self.raises(InvalidNumber, -2, part_total, tariff, "a", -2, -1)
        self.raises(InvalidNumber, -2, part_total, length=-1, times=-2, sign="c", tariff=tariff)
        self.raises(InvalidNumber, -1, part_total, tariff, "c", 1, -1)
        for sign in ("c", "", "ab", "aa", "A", " ", "\u00e4"):
            self.raises(UnknownSign, sign, part_total, tariff, sign, 5, 3)
            self.raises(UnknownSign, sign, counted, tariff, sign)
            self.raises(UnknownSign, sign, counted, sign=sign, tariff=nothing())

    def test_nothing_changes(self):
        tariff = places("ab", "ab")
        form = form_told(tariff)
        asked = [lambda: totals(tariff, 4), lambda: recurrence(tariff), lambda: form_told(counted(tariff, "a")),
                 lambda: form_told(last_out(tariff)), lambda: form_told(first_out(tariff))]
        told_first = [deed() for deed in asked]
        for deed in asked:
            found = deed()
            self.apart(found, deed())
            if isinstance(found, list):
                found.clear()
            else:
                found[0].clear()
                found[1][0].clear()
        for deed, value in ((total, -1), (totals, -1), (mean, -1), (counted, "c")):
            self.assertRaises(ValueError, deed, tariff, value)
        self.assertEqual([deed() for deed in asked], told_first)
        self.assertEqual(form_told(tariff), form)

    def test_each_stays(self):
        tariff = each(lengths("ab"), lengths("ab"))
        self.assertEqual(total(tariff, 3), (72, 1))


if __name__ == "__main__":
    unittest.main()
