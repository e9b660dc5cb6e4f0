import random
import unittest
from fractions import Fraction

from plain import (
    form_by, form_told, kept, messages_to, pair_of, some_number, some_parts, sum_of, told, worth_of, worths_of,
)
from textworths.closures import all_alike, each, just, lengths, places, plus, scaled, turned
from textworths.errors import InvalidMachine, InvalidNumber, InvalidSigns, UnknownSign, UnlikeSigns
from textworths.machines import Machine
from textworths.tariffs import Tariff, first_apart, first_worth, free_ones, machine_of, tariff_of, told_by

ONE, NONE, HALF = (1, 1), (0, 1), (1, 2)
# The number of places at which "a" stands.
HEADS = ["", "a"]
TABLE = [[[NONE, ONE], [ONE, NONE]], [[(-1, 1), (2, 1)], [NONE, ONE]]]
WORTHS = [NONE, ONE]
WRONG_NUMBERS = [(2, 4), (0, 2), (1, 0), (0, 0), (1, -1), (-3, -2)]


def nothing(signs="ab"):
    return Tariff(signs, [], [], [])


def worths_by_form(signs, heads, table, worths):
    """The worths by a form, whether it is right or not."""
    def worth(message):
        row = [Fraction(int(at == 0)) for at in range(len(heads))]
        for sign in message:
            row = [
                sum((row[at] * told(table[at][signs.index(sign)][goal]) for at in range(len(heads))), Fraction(0))
                for goal in range(len(heads))
            ]
        return sum((entry * told(last) for entry, last in zip(row, worths)), Fraction(0))
    return kept(worth)


def copy_of(table):
    return [[list(row) for row in rows] for rows in table]


def some_tariff(source, signs, size, many, digits=1):
    return tariff_of(Machine(signs, *some_parts(source, signs, size, many, digits)))


class Made(unittest.TestCase):
    def raises(self, error, value, signs="ab", heads=HEADS, table=TABLE, worths=WORTHS):
        parts = (signs, list(heads), [list(rows) if isinstance(rows, list) else rows for rows in table], list(worths))
        before = repr(parts)
        for make in (lambda: Tariff(*parts),
                     lambda: Tariff(worths=parts[3], table=parts[2], heads=parts[1], signs=parts[0])):
            with self.assertRaises(error) as caught:
                make()
            self.assertIs(type(caught.exception), error)
            self.assertEqual(caught.exception.value, value)
            self.assertEqual(repr(parts), before)
            if isinstance(value, list):
                self.assertIsNot(caught.exception.value, parts[1])

    def no_form(self, heads=HEADS, table=TABLE, worths=WORTHS, signs="ab"):
        self.raises(InvalidMachine, heads, signs, heads, table, worths)

    def test_parts_as_passed(self):
        for tariff in (Tariff("ab", HEADS, TABLE, WORTHS),
                       Tariff(worths=WORTHS, table=TABLE, heads=HEADS, signs="ab")):
            self.assertEqual(tariff.signs, "ab")
            self.assertEqual(form_told(tariff), (HEADS, TABLE, WORTHS))
            self.assertEqual(len(tariff), 2)
            self.assertEqual(tariff, places("ab", "a"))

    def test_lists_are_new_at_each_depth(self):
        tariff = Tariff("ab", HEADS, TABLE, WORTHS)
        for name in ("heads", "table", "worths"):
            first, second = getattr(tariff, name), getattr(tariff, name)
            self.assertIsNot(first, second)
            first.clear()
            self.assertEqual(getattr(tariff, name), second)
        inner = []
        for table in (tariff.table, tariff.table, TABLE):
            inner += [table] + [rows for rows in table] + [row for rows in table for row in rows]
        self.assertEqual(len({id(each) for each in inner}), len(inner))
        table = tariff.table
        table[0][0][0] = (7, 1)
        table[1].pop()
        self.assertEqual(tariff.table, TABLE)
        self.assertEqual(tariff("aab"), (2, 1))

    def test_no_argument_is_kept(self):
        heads, table, worths = list(HEADS), copy_of(TABLE), list(WORTHS)
        tariff = Tariff("ab", heads, table, worths)
        self.assertEqual((heads, table, worths), (HEADS, TABLE, WORTHS))
        table[0][1][0] = (5, 1)
        table[1].pop()
        table.reverse()
        heads.clear()
        worths.append(ONE)
        self.assertEqual(form_told(tariff), (HEADS, TABLE, WORTHS))
        self.assertEqual([tariff("aab"), len(tariff)], [(2, 1), 2])
        self.assertEqual(tariff, places("ab", "a"))

    def test_properties_are_not_assigned(self):
        tariff = Tariff("ab", HEADS, TABLE, WORTHS)
        for name in ("signs", "heads", "table", "worths"):
            with self.assertRaises(AttributeError):
                setattr(tariff, name, [])

    def test_without_heads(self):
        for signs in ("a", "bc", "xyz"):
            tariff = Tariff(signs, [], [], [])
            self.assertEqual([len(tariff), tariff(""), tariff(signs), form_told(tariff)], [0, NONE, NONE, ([], [], [])])
            self.assertEqual(tariff, all_alike(signs, NONE))

    def test_wrong_signs(self):
        for signs in ("", "ba", "aab", "aB", "a b", "a1", "\u00e4"):
            self.raises(InvalidSigns, signs, signs=signs)
        self.raises(InvalidSigns, "ba", signs="ba", heads=["b", "x"], table=[[(2, 2)]], worths=[(3, 3)])

    def test_wrong_numbers(self):
        for wrong in WRONG_NUMBERS:
            for at, by, goal in [(at, by, goal) for at in (0, 1) for by in (0, 1) for goal in (0, 1)]:
                table = copy_of(TABLE)
                table[at][by][goal] = wrong
                self.raises(InvalidNumber, wrong, table=table)
                self.raises(InvalidNumber, wrong, table=table, heads=["x", "", ""], worths=[(9, 9)])
            for at in (0, 1):
                worths = list(WORTHS)
                worths[at] = wrong
                self.raises(InvalidNumber, wrong, worths=worths)
                self.raises(InvalidNumber, wrong, worths=worths, heads=[])

    def test_first_wrong_number(self):
        table = copy_of(TABLE)
        table[0][1][0], table[0][1][1], table[1][0][0] = (2, 2), (3, 3), (4, 4)
        self.raises(InvalidNumber, (2, 2), table=table, worths=[(5, 5), (6, 6)])
        table[0][1] = [ONE, NONE]
        self.raises(InvalidNumber, (4, 4), table=table, worths=[(5, 5), (6, 6)])
        self.raises(InvalidNumber, (5, 5), worths=[(5, 5), (6, 6)])
        self.raises(InvalidNumber, (6, 6), worths=[NONE, (6, 6)], heads=["a"])

    def test_heads_in_their_order(self):
        self.no_form(heads=["a", ""])
        self.no_form(heads=["", ""])
        self.no_form(heads=["a", "a"])
        three = tariff_of(Machine("ab", [ONE, NONE, NONE], [(0, "a", 1, ONE), (0, "b", 2, ONE), (1, "a", 1, ONE)],
                                    [ONE, HALF, (1, 3)]))
        heads, table, worths = form_told(three)
        self.assertEqual(heads, ["", "a", "b"])
        self.no_form(heads=["", "b", "a"], table=table, worths=worths)
        order = [0, 2, 1]
        moved = [[[table[at][by][goal] for goal in order] for by in (0, 1)] for at in order]
        self.no_form(heads=["", "b", "a"], table=moved, worths=[worths[at] for at in order])
        self.no_form(heads=["", "a", "a"], table=table, worths=worths)
        self.no_form(heads=["", "a", ""], table=table, worths=worths)

    def test_heads_have_their_beginnings(self):
        self.no_form(heads=["a", "b"])
        self.no_form(heads=["", "aa"])
        self.no_form(heads=["", "ba"])
        self.no_form(heads=["a"], table=[[[ONE], [ONE]]], worths=[ONE])
        self.no_form(heads=["", "b"])

    def test_heads_of_wrong_signs(self):
        for sign in ("c", "A", " ", "-", "1"):
            self.no_form(heads=["", sign])
        self.no_form(heads=["", "ab"])
        self.no_form(heads=["c"], table=[[[ONE], [ONE]]], worths=[ONE])

    def test_wrong_lengths(self):
        self.no_form(heads=[])
        self.no_form(heads=[""])
        self.no_form(heads=["", "a", "b"])
        self.no_form(heads=HEADS, table=[])
        self.no_form(heads=[], table=[], worths=[ONE])
        self.no_form(heads=[], table=[[]], worths=[])
        self.no_form(heads=[""], table=[], worths=[ONE])
        self.no_form(heads=[""], table=[[[ONE], [ONE]]], worths=[])
        self.no_form(table=TABLE[:1])
        self.no_form(table=TABLE + TABLE[:1])
        self.no_form(table=[TABLE[0], TABLE[1][:1]])
        self.no_form(table=[TABLE[0] + [[ONE, NONE]], TABLE[1]])
        self.no_form(table=[TABLE[0], []])
        for at, by in ((0, 0), (0, 1), (1, 0), (1, 1)):
            for row in ([], [ONE], [NONE, ONE, NONE], TABLE[at][by] + [NONE]):
                table = copy_of(TABLE)
                table[at][by] = row
                self.no_form(table=table)
        self.no_form(worths=[])
        self.no_form(worths=[NONE])
        self.no_form(worths=[NONE, ONE, NONE])
        self.no_form(signs="abc")
        self.no_form(signs="a")

    def test_wrong_depths(self):
        self.no_form(table=[TABLE])
        self.no_form(table=TABLE[0])
        self.no_form(table=[ONE, ONE])
        self.no_form(table=[[ONE, ONE], [ONE, ONE]])
        self.no_form(table=[TABLE[0], ONE])
        self.no_form(table=[[[NONE, ONE], ONE], TABLE[1]])
        self.no_form(table=[[[[NONE], [ONE]], [[ONE], [NONE]]], TABLE[1]])
        self.no_form(worths=[[NONE], [ONE]])
        self.no_form(worths=[[NONE, ONE]])
        self.no_form(heads=[], table=[[]], worths=[[]])
        self.no_form(heads=[""], table=[[ONE, ONE]], worths=[ONE])
        self.no_form(table=[[(NONE, ONE), [ONE, NONE]], TABLE[1]])
        self.no_form(table=[[[NONE, ONE], [ONE, 0]], TABLE[1]])
        self.no_form(table=[[[NONE, ONE], [ONE, (0, 1, 1)]], TABLE[1]])
        self.no_form(worths=[0, 1])
        self.no_form(heads=["", ["a"]])
        self.raises(InvalidNumber, (2, 2), table=[[(2, 2), ONE], [ONE, ONE]])
        self.raises(InvalidNumber, (2, 2), table=[ONE, (2, 2)])
        self.raises(InvalidNumber, (2, 2), worths=[[NONE], [(2, 2)]])

    def test_heads_that_are_not_free(self):
        # Both heads end alike, and lead on alike: their rests are the same.
        table = [[[NONE, ONE], [NONE, ONE]], [[NONE, ONE], [NONE, ONE]]]
        self.no_form(table=table, worths=[ONE, ONE])
        self.assertEqual(len(Tariff("ab", HEADS, table, [NONE, ONE])), 2)
        self.no_form(table=TABLE, worths=[NONE, NONE])
        self.no_form(heads=[""], table=[[[ONE], [ONE]]], worths=[NONE])
        self.no_form(heads=["", "a"], table=[[[NONE, ONE], [NONE, (2, 1)]], [[NONE, NONE]] * 2], worths=[ONE, NONE])

    def test_rests_that_do_not_add_up(self):
        # Behind the first head and "a" there is the second head itself.
        table = copy_of(TABLE)
        table[0][0] = [NONE, HALF]
        self.no_form(table=table)
        table[0][0] = [ONE, ONE]
        self.no_form(table=table)
        # The rest behind "aa" may not be told by "b", which is ahead of it, as a head that is none.
        self.no_form(heads=["", "b"], table=[[[NONE, ONE], [NONE, ONE]], [[NONE, NONE]] * 2], worths=[NONE, ONE])
        self.no_form(heads=["", "b"], table=[[[NONE, (3, 1)], [NONE, ONE]], [[NONE, NONE]] * 2], worths=[NONE, ONE])
        right = Tariff("ab", ["", "b"], [[[ONE, NONE], [NONE, ONE]], [[NONE, (3, 1)], [NONE, NONE]]], [NONE, ONE])
        self.assertEqual([right("aab"), right("aba")], [ONE, (3, 1)])

    def test_changed_forms(self):
        source = random.Random(11)
        refused = 0
        for _ in range(400):
            signs = source.choice(["a", "ab", "ab", "abc"])
            size = source.randint(1, 3)
            heads, table, worths = form_told(some_tariff(source, signs, size, source.randint(1, 9)))
            if not heads:
                continue
            many = len(heads)
            for _ in range(source.randint(1, 2)):
                number = source.choice([NONE, NONE, ONE, (-1, 1), HALF])
                at, by, goal = source.randrange(many), source.randrange(len(signs)), source.randrange(many)
                if source.random() < 0.7:
                    table[at][by][goal] = number
                else:
                    worths[at] = number
            worth = worths_by_form(signs, heads, table, worths)
            if form_by(signs, many, worth) == (heads, table, worths):
                tariff = Tariff(signs, heads, table, worths)
                self.assertEqual(form_told(tariff), (heads, table, worths))
                self.assertEqual([told(tariff(each)) for each in messages_to(signs, 3)],
                                 [worth(each) for each in messages_to(signs, 3)])
            else:
                refused += 1
                self.no_form(heads, table, worths, signs)
        self.assertGreater(refused, 50)

    def test_forms_of_many_heads(self):
        many = 40
        heads = ["a" * at for at in range(many)]
        units = [[(int(at == goal), 1) for goal in range(many)] for at in range(many)]
        table = [[units[at + 1]] for at in range(many - 1)] + [[[(7, 3)] + [NONE] * (many - 1)]]
        worths = [NONE] * (many - 1) + [(1, 9)]
        tariff = Tariff("a", heads, table, worths)
        self.assertEqual([len(tariff), tariff("a" * 39), tariff("a" * 79), tariff("a" * 40)],
                         [40, (1, 9), (7, 27), NONE])
        self.assertEqual(tariff_of(machine_of(tariff)), tariff)
        table[-1][0][0] = NONE
        self.assertEqual(Tariff("a", heads, table, worths)("a" * 79), NONE)
        self.no_form(heads, table, [ONE] + [NONE] * (many - 1), "a")


class Worth(unittest.TestCase):
    def test_ordinary(self):
        tariff = Tariff("ab", HEADS, TABLE, WORTHS)
        self.assertEqual([tariff(each) for each in ("", "a", "b", "abaa", "bbb")], [NONE, ONE, NONE, (3, 1), NONE])
        self.assertEqual(tariff(message="aba"), (2, 1))

    def test_messages_of_many_tariffs(self):
        source = random.Random(12)
        for _ in range(40):
            signs = source.choice(["a", "bz", "abc"])
            parts = some_parts(source, signs, source.randint(0, 4), source.randint(0, 12), source.choice([1, 9]))
            tariff = tariff_of(Machine(signs, *parts))
            for message in messages_to(signs, 4):
                self.assertEqual(tariff(message), worth_of(*parts, message))

    def test_long_messages(self):
        source = random.Random(13)
        parts = some_parts(source, "abc", 6, 24, 9)
        tariff = tariff_of(Machine("abc", *parts))
        message = "".join(source.choice("abc") for _ in range(50))
        self.assertEqual(tariff(message), worth_of(*parts, message))
        parts = some_parts(source, "ab", 5, 20, 1)
        tariff = tariff_of(Machine("ab", *parts))
        message = "".join(source.choice("ab") for _ in range(400))
        self.assertEqual(tariff(message), worth_of(*parts, message))
        self.assertEqual(places("ab", "ab")("ab" * 200), (200, 1))

    def test_unknown_sign(self):
        tariff = Tariff("ab", HEADS, TABLE, WORTHS)
        for each_one in (tariff, nothing()):
            for message, sign in (("c", "c"), ("abxay", "x"), ("a b", " "), ("aA", "A"), ("ba-", "-")):
                for ask in (lambda: each_one(message), lambda: each_one(message=message)):
                    with self.assertRaises(UnknownSign) as caught:
                        ask()
                    self.assertEqual(caught.exception.value, sign)
        self.assertEqual(tariff("aa"), (2, 1))


class TariffOf(unittest.TestCase):
    def check(self, signs, parts, size=None):
        """The form of the tariff of a machine is that of its worths, and is taken as a form."""
        machine = Machine(signs, *parts)
        tariff = tariff_of(machine)
        worth = worths_of(parts)
        self.assertEqual(form_told(tariff), form_by(signs, len(parts[0]), worth))
        self.assertEqual(tariff.signs, signs)
        again = Tariff(signs, *form_told(tariff))
        self.assertEqual(again, tariff)
        self.assertEqual(form_told(again), form_told(tariff))
        for message in messages_to(signs, 2):
            self.assertEqual([tariff(message), again(message)], [pair_of(worth(message))] * 2)
        self.assertEqual((machine.begin, machine.roads, machine.end), tuple(parts))
        if size is not None:
            self.assertEqual(len(tariff), size)
        return tariff

    def test_without_states(self):
        for signs in ("a", "ab", "xyz"):
            self.assertEqual(self.check(signs, ([], [], []), 0), nothing(signs))

    def test_many_machines(self):
        source = random.Random(14)
        sizes = {}
        for _ in range(150):
            signs = source.choice(["a", "ab", "xy", "abc"])
            size = source.randint(1, 4 if len(signs) > 1 else 6)
            parts = some_parts(source, signs, size, source.randint(0, 12), source.choice([1, 1, 4]))
            many = len(self.check(signs, parts))
            sizes[many] = sizes.get(many, 0) + 1
        self.assertTrue(all(sizes.get(many, 0) > 2 for many in range(5)), sizes)

    def test_small_numbers(self):
        source = random.Random(15)
        for _ in range(150):
            signs = source.choice(["a", "ab", "abc"])
            size = source.randint(1, 4)
            numbers = [NONE, NONE, ONE, ONE, (-1, 1), HALF]
            roads = [(source.randrange(size), source.choice(signs), source.randrange(size), source.choice(numbers))
                     for _ in range(source.randint(0, 12))]
            self.check(signs, ([source.choice(numbers) for _ in range(size)], roads,
                               [source.choice(numbers) for _ in range(size)]))

    def test_six_states(self):
        source = random.Random(16)
        for _ in range(4):
            self.check("ab", some_parts(source, "ab", 6, 24), 6)
        self.check("abc", some_parts(source, "abc", 4, 24), 4)

    def test_nine_digits(self):
        source = random.Random(17)
        for size in (1, 2, 3, 4):
            self.check("ab", some_parts(source, "ab", size, 4 * size, 9))
        parts = some_parts(source, "abc", 6, 24, 9)
        tariff = tariff_of(Machine("abc", *parts))
        self.assertEqual(len(tariff), 6)
        self.assertEqual(Tariff("abc", *form_told(tariff)), tariff)
        for message in messages_to("abc", 4):
            self.assertEqual(tariff(message), worth_of(*parts, message))

    def test_states_alike(self):
        roads = [(0, "a", 1, ONE), (0, "a", 2, ONE), (1, "b", 1, HALF), (2, "b", 2, HALF)]
        self.check("ab", ([ONE, NONE, NONE], roads, [NONE, ONE, ONE]), 2)
        self.check("a", ([ONE] * 6, [(at, "a", at, HALF) for at in range(6)], [ONE] * 6), 1)

    def test_states_that_nothing_reaches(self):
        roads = [(0, "a", 0, HALF), (1, "a", 0, ONE), (1, "a", 1, (3, 1)), (2, "a", 2, ONE)]
        self.check("a", ([ONE, NONE, NONE], roads, [ONE, ONE, ONE]), 1)

    def test_states_that_nothing_ends(self):
        roads = [(0, "a", 0, HALF), (0, "a", 1, ONE), (1, "b", 1, (3, 1)), (2, "a", 2, ONE)]
        self.check("ab", ([ONE, ONE, ONE], roads, [ONE, NONE, NONE]), 1)

    def test_roads_that_cancel(self):
        roads = [(0, "a", 1, ONE), (0, "a", 1, (-1, 1)), (1, "a", 1, ONE)]
        self.check("a", ([ONE, NONE], roads, [ONE, ONE]), 1)
        self.check("a", ([ONE, ONE], [(0, "a", 0, ONE), (1, "a", 1, ONE)], [ONE, (-1, 1)]), 0)
        # The courses over 1 and over 2 cancel only where both go on alike.
        roads = [(0, "a", 1, ONE), (0, "a", 2, (-1, 1)), (1, "b", 1, ONE), (2, "b", 2, ONE), (2, "a", 2, ONE)]
        self.check("ab", ([ONE, NONE, NONE], roads, [ONE, ONE, ONE]), 3)

    def test_roads_of_0(self):
        self.check("ab", ([ONE, NONE], [(0, "a", 1, NONE), (1, "b", 0, NONE)], [ONE, ONE]), 1)
        self.check("ab", ([NONE, NONE], [(0, "a", 1, ONE)], [ONE, ONE]), 0)
        self.check("ab", ([ONE, ONE], [(0, "a", 1, ONE)], [NONE, NONE]), 0)

    def test_order_of_the_heads(self):
        roads = [(0, "b", 1, ONE), (1, "a", 2, ONE), (0, "a", 3, ONE), (3, "b", 4, ONE)]
        tariff = self.check("ab", ([ONE] + [NONE] * 4, roads, [NONE, NONE, (5, 1), NONE, (7, 1)]))
        self.assertEqual(tariff.heads, ["", "a", "b", "ab"])
        tariff = self.check("abc", ([ONE, NONE, NONE], [(0, "c", 1, ONE), (1, "b", 2, ONE)], [NONE, NONE, ONE]))
        self.assertEqual(tariff.heads, ["", "c", "cb"])

    def test_long_heads(self):
        parts = ([ONE] + [NONE] * 5, [(at, "b", at + 1, HALF) for at in range(5)], [NONE] * 5 + [ONE])
        self.assertEqual(self.check("b", parts).heads, ["b" * at for at in range(6)])

    def test_by_name_and_again(self):
        machine = Machine("ab", [ONE, NONE], [(0, "a", 1, ONE), (1, "b", 1, HALF)], [NONE, ONE])
        self.assertEqual(tariff_of(machine=machine), tariff_of(machine))
        self.assertEqual(form_told(tariff_of(machine)), form_told(tariff_of(machine)))

    def test_no_machine_has_fewer_states(self):
        source = random.Random(18)
        for _ in range(60):
            size = source.randint(1, 5)
            tariff = some_tariff(source, "ab", size, 4 * size)
            self.assertLessEqual(len(tariff), size)
            self.assertEqual(len(tariff_of(machine_of(tariff))), len(tariff))


class MachineOf(unittest.TestCase):
    def test_order_of_the_roads(self):
        machine = machine_of(Tariff("ab", HEADS, TABLE, WORTHS))
        self.assertIsInstance(machine, Machine)
        self.assertEqual(machine.signs, "ab")
        self.assertEqual(machine.begin, [ONE, NONE])
        self.assertEqual(machine.roads, [
            (0, "a", 1, ONE), (0, "b", 0, ONE), (1, "a", 0, (-1, 1)), (1, "a", 1, (2, 1)), (1, "b", 1, ONE)])
        self.assertEqual(machine.end, [NONE, ONE])

    def test_without_heads(self):
        machine = machine_of(tariff=nothing("xy"))
        self.assertEqual((machine.signs, machine.begin, machine.roads, machine.end), ("xy", [], [], []))

    def test_many(self):
        source = random.Random(19)
        for _ in range(60):
            signs = source.choice(["a", "ab", "abc"])
            tariff = some_tariff(source, signs, source.randint(0, 6), source.randint(0, 24), source.choice([1, 9]))
            machine = machine_of(tariff)
            heads, table, worths = form_told(tariff)
            roads = []
            for at in range(len(heads)):
                for by, sign in enumerate(signs):
                    for goal in range(len(heads)):
                        if table[at][by][goal] != NONE:
                            roads.append((at, sign, goal, table[at][by][goal]))
            self.assertEqual(machine.roads, roads)
            self.assertEqual(machine.begin, ([ONE] + [NONE] * len(heads))[:len(heads)])
            self.assertEqual(machine.end, worths)
            self.assertEqual(len(machine), len(tariff))
            self.assertEqual(tariff_of(machine), tariff)
            for message in messages_to(signs, 3):
                self.assertEqual(machine(message), tariff(message))


class Equality(unittest.TestCase):
    def same(self, one, other):
        for left, right in ((one, other), (other, one)):
            self.assertIs(left == right, True)
            self.assertIs(left != right, False)

    def unlike(self, one, other):
        for left, right in ((one, other), (other, one)):
            self.assertIs(left == right, False)
            self.assertIs(left != right, True)

    def test_like_worths(self):
        tariff = Tariff("ab", HEADS, TABLE, WORTHS)
        self.same(tariff, tariff)
        self.same(tariff, Tariff("ab", list(HEADS), copy_of(TABLE), list(WORTHS)))
        roads = [(0, "a", 0, ONE), (0, "a", 2, ONE), (2, "a", 2, ONE), (2, "b", 2, ONE), (0, "b", 0, ONE),
                 (1, "a", 0, ONE)]
        self.same(tariff, tariff_of(Machine("ab", [ONE, NONE, NONE], roads, [NONE, (5, 1), ONE])))
        self.same(nothing(), tariff_of(Machine("ab", [ONE], [], [NONE])))

    def test_unlike_worths(self):
        tariff = Tariff("ab", HEADS, TABLE, WORTHS)
        self.unlike(tariff, Tariff("ab", HEADS, TABLE, [ONE, (2, 1)]))
        self.unlike(tariff, nothing())
        self.unlike(tariff, lengths("ab"))
        self.unlike(tariff, scaled(tariff, (2, 1)))
        self.unlike(just("ab", "a"), just("ab", "b"))
        self.unlike(just("a", "aa"), just("a", "aaa"))
        self.unlike(Tariff("a", [""], [[[HALF]]], [ONE]), Tariff("a", [""], [[[(1, 3)]]], [ONE]))

    def test_unlike_signs(self):
        self.unlike(all_alike("ab", ONE), all_alike("abc", ONE))
        self.unlike(all_alike("a", ONE), all_alike("b", ONE))
        self.unlike(nothing("a"), nothing("b"))
        self.unlike(nothing("a"), nothing("ab"))

    def test_forms_decide(self):
        source = random.Random(20)
        tariffs = []
        for _ in range(40):
            numbers = [NONE, ONE, ONE, (-1, 1)]
            size = source.randint(0, 2)
            roads = [(source.randrange(size), source.choice("ab"), source.randrange(size), source.choice(numbers))
                     for _ in range(source.randint(0, 3) if size else 0)]
            tariffs.append(tariff_of(Machine("ab", [source.choice(numbers) for _ in range(size)], roads,
                                             [source.choice(numbers) for _ in range(size)])))
        like = 0
        for one in tariffs:
            for other in tariffs:
                alike = all(one(each) == other(each) for each in messages_to("ab", 3))
                (self.same if alike else self.unlike)(one, other)
                self.assertEqual(alike, form_told(one) == form_told(other))
                like += alike
        self.assertGreater(like, 60)

    def test_anything_else(self):
        class Likeness:
            signs, heads, table, worths = "ab", HEADS, TABLE, WORTHS

        tariff = Tariff("ab", HEADS, TABLE, WORTHS)
        for each_one in (tariff, nothing()):
            for other in (None, True, False, 0, 2, "ab", "", b"ab", (), [], {}, set(), Tariff, object(), Likeness(),
                          ("ab", HEADS, TABLE, WORTHS), HEADS, TABLE, InvalidMachine(1), machine_of(each_one),
                          Machine("ab", [], [], [])):
                self.unlike(each_one, other)
        self.assertNotIn(tariff, [None, "ab", machine_of(tariff)])
        self.assertIn(tariff, [None, places("ab", "a")])


class FirstApart(unittest.TestCase):
    def test_ordinary(self):
        ones, a = all_alike("ab", ONE), places("ab", "a")
        self.assertEqual(first_apart(a, ones), "")
        self.assertEqual(first_apart(a, lengths("ab")), "b")
        self.assertEqual(first_apart(one=a, other=places("ab", "b")), "a")
        self.assertIsNone(first_apart(a, Tariff("ab", HEADS, TABLE, WORTHS)))
        self.assertIsNone(first_apart(nothing(), nothing()))
        self.assertEqual(first_apart(nothing(), just("ab", "bab")), "bab")
        self.assertEqual(first_apart(just("ab", "ba"), just("ab", "ab")), "ab")
        self.assertEqual(first_apart(just("ab", "aaa"), just("ab", "b")), "b")

    def test_shorter_than_both_sizes(self):
        # Over one sign, two rings of unlike lengths agree as long as they can.
        for size, size_2 in ((1, 2), (2, 3), (3, 4), (5, 6), (4, 6)):
            rings = []
            for many in (size, size_2):
                roads = [(at, "a", (at + 1) % many, ONE) for at in range(many)]
                rings.append(tariff_of(Machine("a", [ONE] + [NONE] * (many - 1), roads, [ONE] + [NONE] * (many - 1))))
            message = first_apart(*rings)
            self.assertEqual(message, "a" * size)

    def test_the_bound_is_reached(self):
        # Both have two heads, and only the longest message that may be the first parts them.
        one = tariff_of(Machine("a", [ONE] * 2, [(0, "a", 0, ONE), (1, "a", 1, (2, 1))], [(3, 1), (-3, 1)]))
        self.assertEqual([one(""), one("a"), one("aa"), one("aaa")], [NONE, (-3, 1), (-9, 1), (-21, 1)])
        roads = [(0, "a", 1, ONE), (1, "a", 1, (3, 1))]
        other = tariff_of(Machine("a", [(-3, 1), NONE], roads, [NONE, ONE]))
        self.assertEqual([len(one), len(other), other("aa"), other("aaa")], [2, 2, (-9, 1), (-27, 1)])
        self.assertEqual(first_apart(one, other), "aaa")

    def test_many(self):
        source = random.Random(21)
        found = {}
        for _ in range(250):
            signs = source.choice(["a", "ab", "abc"])
            numbers = [NONE, NONE, ONE, ONE, (-1, 1)]
            pair = []
            for _ in (0, 1):
                size = source.randint(0, 3)
                roads = [(source.randrange(size), source.choice(signs), source.randrange(size), source.choice(numbers))
                         for _ in range(source.randint(0, 6) if size else 0)]
                pair.append(tariff_of(Machine(signs, [source.choice(numbers) for _ in range(size)], roads,
                                              [source.choice(numbers) for _ in range(size)])))
            one, other = pair
            every = messages_to(signs, len(one) + len(other))
            wanted = next((each for each in every if one(each) != other(each)), None)
            self.assertEqual(first_apart(one, other), wanted)
            self.assertEqual(first_apart(other, one), wanted)
            self.assertEqual(wanted is None, one == other)
            if wanted is not None:
                self.assertLess(len(wanted), len(one) + len(other))
            found[None if wanted is None else len(wanted)] = True
        self.assertTrue(all(each in found for each in (None, 0, 1, 2)), found)

    def test_nine_digits(self):
        source = random.Random(22)
        one, other = some_tariff(source, "ab", 4, 16, 9), some_tariff(source, "ab", 3, 12, 9)
        self.assertEqual(first_apart(plus(one, other), plus(one, plus(other, just("ab", "abba")))), "abba")
        self.assertIsNone(first_apart(plus(one, other), plus(other, one)))

    def test_unlike_signs(self):
        for one, other in (("ab", "a"), ("a", "b"), ("ab", "abc")):
            for make in (lambda signs: all_alike(signs, ONE), nothing):
                with self.assertRaises(UnlikeSigns) as caught:
                    first_apart(make(one), make(other))
                self.assertEqual(caught.exception.value, other)


class FirstWorth(unittest.TestCase):
    def test_ordinary(self):
        self.assertEqual(first_worth(all_alike("ab", ONE)), "")
        self.assertEqual(first_worth(lengths("ab")), "a")
        self.assertEqual(first_worth(places("ab", "b")), "b")
        self.assertEqual(first_worth(tariff=just("abc", "cab")), "cab")
        self.assertIsNone(first_worth(nothing()))
        self.assertIsNone(first_worth(scaled(lengths("ab"), NONE)))

    def test_many(self):
        source = random.Random(23)
        for _ in range(150):
            signs = source.choice(["a", "ab", "abc"])
            numbers = [NONE, NONE, NONE, ONE, (-1, 1)]
            size = source.randint(1, 4)
            roads = [(source.randrange(size), source.choice(signs), source.randrange(size), source.choice(numbers))
                     for _ in range(source.randint(0, 9))]
            tariff = tariff_of(Machine(signs, [source.choice(numbers) for _ in range(size)], roads,
                                       [source.choice(numbers) for _ in range(size)]))
            wanted = next((each for each in messages_to(signs, size) if tariff(each) != NONE), None)
            self.assertEqual(first_worth(tariff), wanted)


class ToldBy(unittest.TestCase):
    def test_ordinary(self):
        ones, a, b, long = all_alike("ab", ONE), places("ab", "a"), places("ab", "b"), lengths("ab")
        self.assertEqual(told_by(long, [a, b]), [ONE, ONE])
        self.assertEqual(told_by(a, [long, b]), [ONE, (-1, 1)])
        self.assertEqual(told_by(long, [a, ones, b]), [ONE, NONE, ONE])
        self.assertIsNone(told_by(long, [a, ones]))
        self.assertEqual(told_by(tariff=scaled(a, (-7, 3)), others=[a]), [(-7, 3)])

    def test_none_and_nothing(self):
        ones = all_alike("ab", ONE)
        self.assertEqual(told_by(nothing(), []), [])
        self.assertIsNone(told_by(ones, []))
        self.assertEqual(told_by(nothing(), [ones]), [NONE])
        self.assertEqual(told_by(nothing(), [nothing(), ones, nothing()]), [NONE] * 3)
        self.assertIsNone(told_by(ones, [nothing(), nothing()]))
        self.assertEqual(told_by(ones, [nothing(), ones, nothing()]), [NONE, ONE, NONE])

    def test_those_that_are_sums_count_0(self):
        a, b, long = places("ab", "a"), places("ab", "b"), lengths("ab")
        self.assertEqual(told_by(long, [a, a, b, long]), [ONE, NONE, ONE, NONE])
        self.assertEqual(told_by(long, [long, a, b]), [ONE, NONE, NONE])
        self.assertEqual(told_by(b, [a, scaled(a, HALF), long, b]), [(-1, 1), NONE, ONE, NONE])
        self.assertEqual(told_by(a, [a, a, a, a, a, a]), [ONE] + [NONE] * 5)

    def test_many(self):
        source = random.Random(24)
        for _ in range(60):
            signs = source.choice(["a", "ab", "abc"])
            base = [some_tariff(source, signs, source.randint(1, 2), source.randint(0, 5)) for _ in range(3)]
            others = [self.mixed(source, signs, base) for _ in range(source.randint(0, 6))]
            tariff = self.mixed(source, signs, source.choice([base, others]))
            numbers = self.plainly(signs, tariff, others)
            self.assertEqual(told_by(tariff, others), numbers)
            self.assertEqual(free_ones(others), self.free(signs, others))
            if numbers is not None:
                made = nothing(signs)
                for each_one, number in zip(others, numbers):
                    made = plus(made, scaled(each_one, number))
                self.assertEqual(made, tariff)

    def mixed(self, source, signs, tariffs):
        made = nothing(signs)
        for tariff in tariffs:
            made = plus(made, scaled(tariff, source.choice([NONE, NONE, ONE, (-2, 3), some_number(source, 2)])))
        return made

    def rows(self, signs, tariffs):
        size = sum(len(each) for each in tariffs)
        return [[told(tariff(each)) for each in messages_to(signs, min(size, 4))] for tariff in tariffs]

    def free(self, signs, tariffs):
        """The indexes of the free ones, from their worths."""
        found, chosen = [], []
        for at, row in enumerate(self.rows(signs, tariffs)):
            if sum_of(chosen, row) is None:
                found.append(at)
                chosen.append(row)
        return found

    def plainly(self, signs, tariff, others):
        rows = self.rows(signs, others + [tariff])
        chosen = self.free(signs, others)
        numbers = sum_of([rows[at] for at in chosen], rows[-1])
        if numbers is None:
            return None
        found = [NONE] * len(others)
        for at, number in zip(chosen, numbers):
            found[at] = pair_of(number)
        return found

    def test_arguments_stay(self):
        others = [places("ab", "a"), places("ab", "b")]
        held = list(others)
        found = told_by(lengths("ab"), others)
        found.clear()
        self.assertEqual(told_by(lengths("ab"), others), [ONE, ONE])
        self.assertEqual(len(others), 2)
        self.assertTrue(all(one is other for one, other in zip(others, held)))

    def test_unlike_signs(self):
        ones = {signs: all_alike(signs, ONE) for signs in ("a", "ab", "abc")}
        for tariff, others, wrong in (("a", ["ab"], "ab"), ("ab", ["ab", "a", "abc"], "a"), ("a", ["ab", "a"], "ab"),
                                      ("abc", ["abc", "abc", "ab"], "ab")):
            with self.assertRaises(UnlikeSigns) as caught:
                told_by(ones[tariff], [ones[each] for each in others])
            self.assertEqual(caught.exception.value, wrong)
        with self.assertRaises(UnlikeSigns) as caught:
            told_by(nothing("a"), [nothing("b")])
        self.assertEqual(caught.exception.value, "b")


class FreeOnes(unittest.TestCase):
    def test_ordinary(self):
        ones, a, b, long = all_alike("ab", ONE), places("ab", "a"), places("ab", "b"), lengths("ab")
        self.assertEqual(free_ones([a, b, long]), [0, 1])
        self.assertEqual(free_ones([long, a, ones, b]), [0, 1, 2])
        self.assertEqual(free_ones(tariffs=[a, a, scaled(a, HALF), b]), [0, 3])
        self.assertEqual(free_ones([each(long, long), long, ones]), [0, 1, 2])

    def test_none_and_nothing(self):
        self.assertEqual(free_ones([]), [])
        self.assertEqual(free_ones([nothing()]), [])
        self.assertEqual(free_ones([nothing(), all_alike("ab", ONE), nothing()]), [1])
        self.assertEqual(free_ones([nothing()] * 6), [])

    def test_alike_for_short_messages(self):
        late = plus(all_alike("a", ONE), just("a", "a" * 10))
        self.assertEqual(free_ones([all_alike("a", ONE), late, just("a", "a" * 10)]), [0, 1])
        self.assertEqual(told_by(just("a", "a" * 10), [all_alike("a", ONE), late]), [(-1, 1), ONE])

    def test_nine_digits(self):
        source = random.Random(25)
        one, other = some_tariff(source, "ab", 6, 24, 9), some_tariff(source, "ab", 5, 20, 9)
        number, number_2 = some_number(source, 9), some_number(source, 9)
        made = plus(scaled(one, number), scaled(other, number_2))
        self.assertEqual(free_ones([one, other, made, turned(one)]), [0, 1, 3])
        self.assertEqual(told_by(made, [one, other]), [number, number_2])
        self.assertIsNone(told_by(made, [one, turned(other)]))

    def test_unlike_signs(self):
        ones = {signs: all_alike(signs, ONE) for signs in ("a", "ab", "abc")}
        for signs, wrong in ((["a", "ab"], "ab"), (["ab", "ab", "abc", "a"], "abc")):
            with self.assertRaises(UnlikeSigns) as caught:
                free_ones([ones[each] for each in signs])
            self.assertEqual(caught.exception.value, wrong)


if __name__ == "__main__":
    unittest.main()
