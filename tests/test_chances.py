import random
import unittest
from fractions import Fraction
from itertools import product

from cases import HALF, NONE, ONE, WRONG_NUMBERS, WRONG_SIGNS, Case, lists_within, nothing, some_tariff
from plain import form_told, kept, messages_to, pair_of, some_number, told, worth_of
from textworths.chances import (
    after, evenly, expected, first_seen_at, independent, is_source, mixed, remembers, seen_by, spread,
)
from textworths.closures import all_alike, just, lengths, places, plus, scaled
from textworths.errors import Endless, InvalidNumber, InvalidSigns, InvalidSource, NoChance, UnknownSign, UnlikeSigns
from textworths.machines import Machine
from textworths.tariffs import Tariff, tariff_of

KEEPS = Tariff("ab", ["", "a"], [[[(0, 1), (1, 1)], [(1, 1), (-1, 1)]],
                                 [[(0, 1), (2, 3)], [(1, 3), (-1, 3)]]], [(1, 1), (1, 2)])


def shares_of(source, many, below=False):
    """So many fractions that add up to 1."""
    while True:
        found = [Fraction(source.randint(-3 if below else 0, 4)) for _ in range(many)]
        if sum(found):
            return [share / sum(found) for share in found]


def some_source(source, signs, size, below=False):
    """A source of a machine whose roads from each state add up to 1, and its chances."""
    roads = []
    for state in range(size):
        goals = list(product(signs, range(size)))
        for (sign, goal), share in zip(goals, shares_of(source, len(goals), below)):
            roads.append((state, sign, goal, pair_of(share)))
    parts = ([pair_of(share) for share in shares_of(source, size, below)], roads, [ONE] * size)
    return tariff_of(Machine(signs, *parts)), kept(lambda message: told(worth_of(*parts, message)))


def chain(signs, order, source):
    """A source in which just the last signs, so many, bind what comes next."""
    states = messages_to(signs, order)
    roads = []
    for at, state in enumerate(states):
        for sign, share in zip(signs, shares_of(source, len(signs))):
            goal = (state + sign)[max(len(state) + 1 - order, 0):]
            roads.append((at, sign, states.index(goal), pair_of(share)))
    return tariff_of(Machine(signs, [ONE] + [NONE] * (len(states) - 1), roads, [ONE] * len(states)))


def of_length(signs, length):
    return ["".join(row) for row in product(signs, repeat=length)]


class Chances(Case):
    def sources(self, seed, many=30, sizes=(1, 2, 2, 3)):
        source = random.Random(seed)
        for _ in range(many):
            signs = source.choice(["a", "ab", "ab", "xyz"])
            yield signs, *some_source(source, signs, source.choice(sizes), source.random() < 0.4)


class Sources(Chances):
    def test_sources(self):
        for signs, source, chance in self.sources(1):
            self.assertIs(is_source(source), True)
            self.assertIs(is_source(tariff=source), True)
            for message in messages_to(signs, 3):
                self.assertEqual(told(source(message)), chance(message))
                self.assertEqual(chance(message), sum(chance(message + sign) for sign in signs))

    def test_others(self):
        for tariff in (nothing(), lengths("ab"), places("a", "a"), all_alike("ab", ONE), all_alike("a", HALF),
                       all_alike("ab", HALF), just("ab", ""), plus(evenly("ab"), just("ab", "ab")),
                       plus(evenly("ab"), scaled(lengths("ab"), (1, 10 ** 9)))):
            self.assertIs(is_source(tariff), False)
        self.assertIs(is_source(all_alike("a", ONE)), True)
        self.assertIs(is_source(KEEPS), True)

    def test_one_number_off(self):
        for signs, source, _ in self.sources(2, 15):
            heads, table, worths = form_told(source)
            for at in range(len(worths)):
                changed = list(worths)
                changed[at] = pair_of(told(worths[at]) + Fraction(1, 1000))
                self.assertIs(is_source(Tariff(signs, heads, table, changed)), False)
        for number in ((1, 3), (2, 3), (-1, 2), (500000001, 10 ** 9)):
            off = tariff_of(Machine("ab", [ONE], [(0, "a", 0, HALF), (0, "b", 0, number)], [ONE]))
            self.assertIs(is_source(off), False)

    def test_worths_below_0(self):
        source = tariff_of(Machine("ab", [ONE], [(0, "a", 0, (3, 1)), (0, "b", 0, (-2, 1))], [ONE]))
        self.assertIs(is_source(source), True)
        self.assertEqual(source("ab"), (-6, 1))

    def test_evenly(self):
        for signs in ("a", "z", "ab", "xyz", "abcdefghijklmnopqrstuvwxyz"):
            source = evenly(signs)
            self.assertEqual(form_told(source), ([""], [[[(1, len(signs))] for _ in signs]], [ONE]))
            self.assertIs(is_source(source), True)
        self.assertEqual(evenly(signs="ab")("abba"), (1, 16))
        for wrong in WRONG_SIGNS:
            self.raises(InvalidSigns, wrong, evenly, wrong)

    def test_after(self):
        for signs, source, chance in self.sources(3):
            for message in messages_to(signs, 2):
                if chance(message) == 0:
                    self.raises(NoChance, message, after, source, message)
                    continue
                found = after(source, message)
                self.assertIs(is_source(found), True)
                self.same(found, signs, lambda end: chance(message + end) / chance(message), len(source), 3)
        self.assertEqual(after(message="", source=KEEPS), KEEPS)
        self.assertEqual([after(KEEPS, "a")("a"), after(KEEPS, "a")("b")], [(2, 3), (1, 3)])

    def test_no_chance(self):
        only_a = tariff_of(Machine("ab", [ONE], [(0, "a", 0, ONE)], [ONE]))
        self.raises(NoChance, "b", after, only_a, "b")
        self.raises(NoChance, "aab", after, message="aab", source=only_a)
        self.assertEqual(after(only_a, "aaa"), only_a)

    def test_mixed(self):
        source = random.Random(4)
        for signs, one, f in self.sources(5, 20):
            other, g = some_source(source, signs, 2)
            for shares in ((ONE, NONE), (HALF, HALF), ((3, 2), (-1, 2)), ((1, 3), (2, 3))):
                found = mixed([one, other], list(shares))
                self.assertIs(is_source(found), True)
                self.same(found, signs, lambda message: told(shares[0]) * f(message) + told(shares[1]) * g(message),
                          len(one) + len(other), 3)
            self.assertEqual(mixed([one, one], [(5, 1), (-4, 1)]), one)
            self.assertEqual(mixed(shares=[ONE], sources=[one]), one)
        self.assertEqual(mixed([evenly("ab"), KEEPS], [HALF, HALF])("aa"), (7, 24))
        ones = [evenly("ab"), KEEPS, evenly("ab"), KEEPS]
        self.assertEqual(mixed(ones, [HALF, (-1, 6), (1, 6), HALF]), mixed([evenly("ab"), KEEPS], [(2, 3), (1, 3)]))


class Expected(Chances):
    def test_expected_and_spread(self):
        source = random.Random(6)
        for signs, one, chance in self.sources(7, 25):
            tariff, worth = some_tariff(source, signs, source.choice([0, 1, 2, 3]))
            for length in range(4):
                messages = of_length(signs, length)
                middle = sum((chance(message) * worth(message) for message in messages), Fraction(0))
                square = sum((chance(message) * worth(message) ** 2 for message in messages), Fraction(0))
                self.assertEqual(expected(one, tariff, length), pair_of(middle))
                self.assertEqual(spread(one, tariff, length), pair_of(square - middle ** 2))

    def test_far(self):
        even = evenly("ab")
        self.assertEqual(expected(even, lengths("ab"), 40), (40, 1))
        self.assertEqual(spread(length=40, tariff=lengths("ab"), source=even), NONE)
        self.assertEqual(expected(length=40, tariff=places("ab", "a"), source=even), (20, 1))
        self.assertEqual(spread(even, places("ab", "a"), 40), (10, 1))
        self.assertEqual(expected(even, places("ab", "ab"), 40), (39, 4))
        self.assertEqual(expected(KEEPS, all_alike("ab", HALF), 40), HALF)
        self.assertEqual(spread(KEEPS, all_alike("ab", HALF), 40), NONE)
        self.assertEqual(expected(evenly("abc"), nothing("abc"), 40), NONE)
        self.assertEqual(spread(evenly("abc"), nothing("abc"), 40), NONE)

    def test_seen(self):
        source = random.Random(8)
        for signs, one, chance in self.sources(9, 25):
            parts = ["".join(source.choice(signs) for _ in range(source.randint(1, 4))) for _ in range(3)]
            for part in parts + [signs[0] * 2, signs[0] * 3, (signs * 2)[:3]]:
                for length in range(6 if len(signs) < 3 else 5):
                    messages = of_length(signs, length)
                    seen = sum((chance(message) for message in messages if part in message), Fraction(0))
                    first = sum((chance(message) for message in messages
                                 if message.endswith(part) and part not in message[:-1]), Fraction(0))
                    self.assertEqual(seen_by(one, part, length), pair_of(seen))
                    self.assertEqual(first_seen_at(one, part, length), pair_of(first))

    def test_far_seen(self):
        even = evenly("ab")
        self.assertEqual(seen_by(length=40, part="a", source=even), (2 ** 40 - 1, 2 ** 40))
        self.assertEqual(first_seen_at(length=40, part="a", source=even), (1, 2 ** 40))
        self.assertEqual(first_seen_at(even, "ab", 40), (39, 2 ** 40))
        for part in ("aba", "aa", "abab", "abaab"):
            firsts = [told(first_seen_at(even, part, length)) for length in range(41)]
            self.assertEqual(seen_by(even, part, 40), pair_of(sum(firsts)))
            self.assertEqual(firsts[:len(part)], [0] * len(part))
            self.assertEqual(firsts[len(part)], Fraction(1, 2 ** len(part)))
        part = "ab" * 25
        self.assertEqual(seen_by(even, part, 40), NONE)
        self.assertEqual(first_seen_at(even, part, 40), NONE)
        self.assertEqual(seen_by(even, "b" * 40, 40), (1, 2 ** 40))
        self.assertEqual(first_seen_at(even, "b" * 39, 40), (1, 2 ** 40))
        self.assertEqual(seen_by(all_alike("a", ONE), "aaa", 40), ONE)
        self.assertEqual(first_seen_at(all_alike("a", ONE), "aaa", 40), NONE)
        self.assertEqual(first_seen_at(all_alike("a", ONE), "aaa", 3), ONE)


class Memory(Chances):
    def plainly(self, signs, chance, size, most):
        """The memory by the rests of all messages to some length, as rows of chances."""
        ends = messages_to(signs, size)
        for many in range(most + 1):
            rests = {}
            for message in messages_to(signs, many + size):
                row = [chance(message + end) for end in ends]
                if len(message) >= many and any(row):
                    rests.setdefault(message[len(message) - many:], []).append(row)
            if all(self.are_multiples(rows) for rows in rests.values()):
                return many
        return None

    def are_multiples(self, rows):
        first = rows[0]
        at = next(at for at, entry in enumerate(first) if entry)
        return all(a * first[at] == row[at] * b for row in rows for a, b in zip(row, first))

    def test_independent(self):
        for signs, source, chance in self.sources(10):
            short = messages_to(signs, 2)
            wanted = all(chance(one + other) == chance(one) * chance(other) for one in short for other in short)
            self.assertIs(independent(source), wanted)
            self.assertIs(remembers(source, 0) == 0, wanted)
        self.assertIs(independent(source=evenly("abc")), True)
        self.assertIs(independent(KEEPS), False)

    def test_remembers(self):
        source = random.Random(11)
        self.assertEqual(remembers(KEEPS, 2), 1)
        self.assertEqual(remembers(most=0, source=evenly("ab")), 0)
        self.assertIsNone(remembers(KEEPS, 0))
        for order in range(1, 5):
            signs = "ab" if order > 1 else "abc"
            found = chain(signs, order, source) if order < 3 else self.last_of(order)
            known = remembers(found, 4)
            self.assertLessEqual(known, order)
            for most in range(5):
                self.assertEqual(remembers(found, most), known if known <= most else None)

    def last_of(self, order):
        """A source that, behind so many `b`, makes no other `b`; only so many last signs tell this."""
        roads = [(at, "a", 0, HALF) for at in range(order)] + [(at, "b", at + 1, HALF) for at in range(order)]
        roads.append((order, "a", 0, ONE))
        return tariff_of(Machine("ab", [ONE] + [NONE] * order, roads, [ONE] * (order + 1)))

    def test_orders(self):
        for order in range(1, 5):
            self.assertEqual(remembers(self.last_of(order), 4), order)

    def test_against_rests(self):
        random_source = random.Random(14)
        for signs, source, chance in self.sources(12, 40, (1, 2, 2, 3)):
            if len(signs) < 3:
                self.assertEqual(remembers(source, 2), self.plainly(signs, chance, len(source), 2))
        for _ in range(20):
            source = chain("ab", random_source.choice([1, 2]), random_source)
            chance = kept(lambda message: told(source(message)))
            self.assertEqual(remembers(source, 2), self.plainly("ab", chance, len(source), 2))

    def test_never(self):
        # Which of two coins was taken is told by no number of last signs.
        coins = mixed([tariff_of(Machine("ab", [ONE], [(0, "a", 0, share), (0, "b", 0, rest)], [ONE]))
                       for share, rest in (((1, 3), (2, 3)), ((1, 4), (3, 4)))], [HALF, HALF])
        for most in range(5):
            self.assertIsNone(remembers(coins, most))

    def test_rests_of_0(self):
        # Behind `b` there is nothing, and behind `a` always the same.
        turns = tariff_of(Machine("ab", [ONE, NONE], [(0, "a", 1, ONE), (1, "b", 0, ONE)], [ONE, ONE]))
        self.assertEqual(remembers(turns, 4), 1)


class Errors(Chances):
    WRONG = [nothing(), lengths("ab"), all_alike("ab", ONE)]

    def test_sources(self):
        for wrong in self.WRONG:
            for deed, more in ((after, ["c"]), (expected, [lengths("a"), -1]), (spread, [lengths("a"), -1]),
                               (seen_by, ["", -1]), (seen_by, ["c", -1]), (first_seen_at, ["", -1]), (independent, []),
                               (remembers, [-1])):
                error = self.raises(InvalidSource, form_told(wrong), deed, wrong, *more)
                lists = lists_within(error.value) + lists_within(form_told(wrong))
                self.assertEqual(len({id(each) for each in lists}), len(lists))
        self.raises(InvalidSource, form_told(lengths("ab")), mixed, [evenly("a"), lengths("ab"), nothing()], [(2, 2)])
        self.raises(InvalidSource, form_told(nothing()), mixed, [nothing(), lengths("ab")], [])

    def test_signs(self):
        for deed in (expected, spread):
            self.raises(UnlikeSigns, "a", deed, KEEPS, lengths("a"), -1)
            self.raises(UnlikeSigns, "abc", deed, length=0, tariff=nothing("abc"), source=KEEPS)
        self.raises(UnlikeSigns, "a", mixed, [KEEPS, evenly("ab"), evenly("a"), evenly("b")], [(2, 2)])
        for deed, more in ((after, []), (seen_by, [-1]), (first_seen_at, [-1])):
            for message, sign in (("c", "c"), ("abxc", "x"), (" ", " "), ("A", "A")):
                self.raises(UnknownSign, sign, deed, KEEPS, message, *more)

    def test_parts_and_counts(self):
        for deed in (seen_by, first_seen_at):
            self.raises(Endless, "", deed, KEEPS, "", -1)
            self.raises(Endless, "", deed, length=3, part="", source=KEEPS)
            self.raises(InvalidNumber, -1, deed, KEEPS, "a", -1)
        for deed in (expected, spread):
            self.raises(InvalidNumber, -3, deed, KEEPS, lengths("ab"), -3)
        self.raises(InvalidNumber, -2, remembers, most=-2, source=KEEPS)

    def test_shares(self):
        two = [KEEPS, evenly("ab")]
        for wrong in WRONG_NUMBERS:
            self.raises(InvalidNumber, wrong, mixed, two, [wrong])
            self.raises(InvalidNumber, wrong, mixed, two, [ONE, wrong, (4, 2)])
        for shares in ([], [ONE], [ONE, NONE, NONE], [HALF, ONE], [NONE, NONE], [(1, 3), (1, 3)]):
            error = self.raises(InvalidNumber, shares, mixed, two, shares)
            self.assertIsNot(error.value, shares)
        self.raises(InvalidNumber, [], mixed, [], [])
        self.raises(InvalidNumber, [ONE], mixed, [], [ONE])

    def test_nothing_changes(self):
        sources, shares = [KEEPS, evenly("ab")], [HALF, HALF]
        form = form_told(KEEPS)
        found = mixed(sources, shares)
        self.assertEqual((len(sources), shares), (2, [HALF, HALF]))
        found.table[0].clear()
        shares.append(ONE)
        self.assertRaises(InvalidNumber, mixed, sources, shares)
        self.assertEqual(mixed(sources, [HALF, HALF]), found)
        self.assertEqual(form_told(KEEPS), form)

    def test_great_numbers(self):
        source = random.Random(13)
        share = some_number(source, 200)
        other = pair_of(1 - told(share))
        found = mixed([KEEPS, evenly("ab")], [share, other])
        self.assertIs(is_source(found), True)
        self.assertEqual(told(found("aa")), told(share) / 3 + told(other) / 4)


if __name__ == "__main__":
    unittest.main()
