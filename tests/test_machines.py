import random
import tracemalloc
import unittest
from fractions import Fraction

from plain import courses_of, messages_to, pair_of, some_parts, told, worth_of
from textworths.errors import InvalidMachine, InvalidNumber, InvalidSigns, UnknownSign
from textworths.machines import Machine
from textworths.numbers import number
from textworths.tariffs import machine_of, tariff_of

ONE, NONE, HALF = (1, 1), (0, 1), (1, 2)
BEGIN = [(1, 1), (0, 1)]
ROADS = [(0, "a", 0, (1, 1)), (0, "a", 1, (1, 2)), (1, "b", 1, (1, 1)), (0, "b", 0, (1, 1))]
END = [(0, 1), (1, 1)]
WRONG_NUMBERS = [(2, 4), (0, 2), (1, 0), (0, 0), (1, -1), (-3, -2)]


class Made(unittest.TestCase):
    def raises(self, error, value, signs="ab", begin=BEGIN, roads=ROADS, end=END):
        parts = (signs, list(begin), list(roads), list(end))
        for make in (lambda: Machine(*parts),
                     lambda: Machine(end=parts[3], roads=parts[2], begin=parts[1], signs=parts[0])):
            with self.assertRaises(error) as caught:
                make()
            self.assertIs(type(caught.exception), error)
            self.assertEqual(caught.exception.value, value)
            self.assertEqual(parts, (signs, list(begin), list(roads), list(end)))
        return caught.exception

    def test_parts_as_passed(self):
        machine = Machine("ab", BEGIN, ROADS, END)
        by_name = Machine(end=END, roads=ROADS, begin=BEGIN, signs="ab")
        for each in (machine, by_name):
            self.assertEqual(each.signs, "ab")
            self.assertEqual(each.begin, BEGIN)
            self.assertEqual(each.roads, ROADS)
            self.assertEqual(each.end, END)
            self.assertEqual(len(each), 2)

    def test_lists_are_new_each_time(self):
        machine = Machine("ab", BEGIN, ROADS, END)
        for name, part in (("begin", BEGIN), ("roads", ROADS), ("end", END)):
            first = getattr(machine, name)
            self.assertIsInstance(first, list)
            self.assertIsNot(first, getattr(machine, name))
            self.assertIsNot(first, part)
            first.clear()
            self.assertEqual(getattr(machine, name), part)
        self.assertEqual(machine("aab"), HALF)

    def test_no_argument_is_kept(self):
        begin, roads, end = list(BEGIN), list(ROADS), list(END)
        machine = Machine("ab", begin, roads, end)
        self.assertEqual((begin, roads, end), (BEGIN, ROADS, END))
        begin.append(ONE)
        begin[0] = (5, 1)
        roads.reverse()
        roads.pop()
        end.clear()
        self.assertEqual((machine.begin, machine.roads, machine.end), (BEGIN, ROADS, END))
        self.assertEqual([machine("aab"), len(machine)], [HALF, 2])
        self.assertEqual(machine.courses("ab"), [([0, 0, 0], NONE), ([0, 1, 1], HALF)])
        self.assertEqual(machine, Machine("ab", BEGIN, ROADS, END))

    def test_properties_are_not_assigned(self):
        machine = Machine("ab", BEGIN, ROADS, END)
        for name in ("signs", "begin", "roads", "end"):
            with self.assertRaises(AttributeError):
                setattr(machine, name, [])
            self.assertIsInstance(Machine.__dict__[name], property)

    def test_wrong_signs(self):
        for signs in ("", "ba", "aab", "aB", "a b", "a1", "\u00e4"):
            self.raises(InvalidSigns, signs, signs=signs)

    def test_wrong_numbers(self):
        for wrong in WRONG_NUMBERS:
            for at in (0, 1):
                begin, end = list(BEGIN), list(END)
                begin[at] = end[at] = wrong
                self.raises(InvalidNumber, wrong, begin=begin)
                self.raises(InvalidNumber, wrong, end=end)
            for at in range(len(ROADS)):
                roads = list(ROADS)
                roads[at] = roads[at][:3] + (wrong,)
                self.raises(InvalidNumber, wrong, roads=roads)

    def test_first_wrong_number(self):
        two, three, four = (2, 2), (3, 3), (4, 4)
        self.raises(InvalidNumber, two, begin=[two, three], roads=[(0, "a", 0, four)], end=[four, four])
        self.raises(InvalidNumber, three, begin=[ONE, three], roads=[(0, "a", 0, four)], end=[two, two])
        self.raises(InvalidNumber, four, roads=[(0, "a", 0, four), (0, "a", 0, three)], end=[two, two])
        self.raises(InvalidNumber, three, roads=[(0, "a", 0, ONE), (0, "a", 0, three)], end=[two, two])
        self.raises(InvalidNumber, two, end=[two, three])

    def test_wrong_states(self):
        for state in (-1, 2, -2, 99):
            for road in ((state, "a", 0, ONE), (0, "a", state, ONE), (state, "b", state, NONE)):
                self.raises(InvalidMachine, road, roads=[ROADS[0], road, ROADS[1]])
        self.raises(InvalidMachine, (0, "a", 0, ONE), begin=[], roads=[(0, "a", 0, ONE)], end=[])

    def test_states_are_counted_by_begin(self):
        road = (1, "a", 0, ONE)
        self.raises(InvalidMachine, road, begin=[ONE], roads=[road], end=[ONE, ONE])
        self.raises(InvalidMachine, [ONE], begin=[ONE, ONE], roads=[road], end=[ONE])

    def test_wrong_signs_of_roads(self):
        for sign in ("c", "", "ab", "ba", "A", " ", "aa", "\u00e4"):
            self.raises(UnknownSign, sign, roads=[ROADS[0], (0, sign, 1, ONE)])

    def test_road_by_road(self):
        self.raises(InvalidMachine, (5, "x", 7, ONE), roads=[(5, "x", 7, ONE), (0, "y", 0, ONE)])
        self.raises(UnknownSign, "x", roads=[(0, "x", 7, ONE), (5, "a", 0, ONE)])
        self.raises(InvalidMachine, (0, "a", 7, ONE), roads=[(0, "a", 7, ONE), (0, "y", 0, ONE)])
        self.raises(UnknownSign, "y", roads=[(0, "a", 1, ONE), (0, "y", 0, ONE), (9, "a", 0, ONE)])

    def test_order_of_the_kinds(self):
        bad = [(9, "x", 0, (2, 2))]
        self.raises(InvalidSigns, "ba", signs="ba", begin=[(2, 2)], roads=bad, end=[])
        self.raises(InvalidNumber, (2, 2), roads=bad, end=[])
        self.raises(InvalidNumber, (4, 2), roads=[(9, "x", 0, ONE)], end=[(4, 2)])
        self.raises(InvalidMachine, (9, "x", 0, ONE), roads=[(9, "x", 0, ONE)], end=[ONE])
        self.raises(UnknownSign, "x", roads=[(0, "x", 0, ONE)], end=[ONE])

    def test_unlike_lengths(self):
        for end in ([], [ONE], [ONE, ONE, NONE]):
            held = list(end)
            with self.assertRaises(InvalidMachine) as caught:
                Machine("ab", BEGIN, ROADS, held)
            self.assertEqual(caught.exception.value, end)
            # A list within an error that the program raises is new.
            self.assertIsNot(caught.exception.value, held)
        self.raises(InvalidMachine, [ONE], begin=[], roads=[], end=[ONE])
        self.raises(InvalidMachine, [], begin=[ONE], roads=[], end=[])


class Worth(unittest.TestCase):
    def test_ordinary(self):
        machine = Machine("ab", BEGIN, ROADS, END)
        self.assertEqual([machine("a"), machine("aab"), machine("b"), machine("ba")], [HALF, HALF, NONE, HALF])
        self.assertEqual(machine(message="aab"), HALF)

    def test_empty_message(self):
        self.assertEqual(Machine("a", [(1, 2), (2, 3), (-5, 1)], [], [(1, 3), (3, 4), NONE])(""), (2, 3))
        self.assertEqual(Machine("a", BEGIN, [(0, "a", 1, ONE)], END)(""), NONE)

    def test_without_states(self):
        machine = Machine("ab", [], [], [])
        self.assertEqual([machine(""), machine("a"), machine("ab" * 25), len(machine)], [NONE, NONE, NONE, 0])
        self.assertEqual([machine.courses(""), machine.courses("ab")], [[], []])
        self.assertRaises(UnknownSign, machine, "c")
        self.assertRaises(UnknownSign, machine.courses, "c")

    def test_roads_alike_and_roads_of_0(self):
        alike = Machine("a", [ONE], [(0, "a", 0, HALF)] * 3, [ONE])
        self.assertEqual([alike("a"), alike("aa")], [(3, 2), (9, 4)])
        self.assertEqual(Machine("a", [ONE], [(0, "a", 0, NONE)] * 2, [ONE])("a"), NONE)
        opposite = Machine("a", [ONE], [(0, "a", 0, HALF), (0, "a", 0, (-1, 2))], [ONE])
        self.assertEqual([opposite(""), opposite("a")], [ONE, NONE])

    def test_without_roads(self):
        machine = Machine("ab", [ONE], [], [ONE])
        self.assertEqual([machine(""), machine("a"), machine("ba")], [ONE, NONE, NONE])

    def test_many_machines(self):
        source = random.Random(5)
        for _ in range(60):
            signs = source.choice(["a", "bz", "abc"])
            size = source.randint(0, 4)
            begin, roads, end = some_parts(source, signs, size, source.randint(0, 12), source.choice([1, 9]))
            machine = Machine(signs, begin, roads, end)
            for message in messages_to(signs, 3):
                worths = [told(worth) for _, worth in courses_of(begin, roads, end, message)]
                self.assertEqual(machine(message), pair_of(sum(worths, Fraction(0))))
                self.assertEqual(machine(message), worth_of(begin, roads, end, message))

    def test_fifty_signs(self):
        source = random.Random(6)
        for digits in (1, 4, 9):
            begin, roads, end = some_parts(source, "abc", 6, 24, digits)
            message = "".join(source.choice("abc") for _ in range(50))
            wanted = worth_of(begin, roads, end, message)
            self.assertEqual(Machine("abc", begin, roads, end)(message), wanted)
        ring = [(state, "a", (state + 1) % 6, number(10 ** 9 - 1 - state, 10 ** 9 - 7)) for state in range(6)]
        wanted = worth_of([ONE] * 6, ring, [ONE] * 6, "a" * 50)
        self.assertEqual(Machine("a", [ONE] * 6, ring, [ONE] * 6)("a" * 50), wanted)

    def test_four_hundred_signs(self):
        source = random.Random(7)
        for size, many in ((1, 2), (2, 6), (6, 24)):
            begin, roads, end = some_parts(source, "ab", size, many, 2)
            message = "".join(source.choice("ab") for _ in range(400))
            wanted = worth_of(begin, roads, end, message)
            self.assertEqual(Machine("ab", begin, roads, end)(message), wanted)
        third = Machine("a", [ONE], [(0, "a", 0, (1, 3))] * 3, [ONE])
        self.assertEqual(third("a" * 400), ONE)
        self.assertEqual(Machine("a", [ONE], [(0, "a", 0, (99, 97))], [ONE])("a" * 400), (99 ** 400, 97 ** 400))

    def test_long_messages_of_worth_0(self):
        faded = Machine("ab", [ONE], [(0, "a", 0, (1, 97)), (0, "b", 0, NONE)], [ONE])
        self.assertEqual(faded("a" * 200 + "b" + "a" * 199), NONE)

    def test_calls_do_not_change_it(self):
        machine = Machine("ab", BEGIN, ROADS, END)
        for _ in range(3):
            self.assertEqual(machine("aab"), HALF)
            self.assertEqual(machine.courses("a"), [([0, 0], NONE), ([0, 1], HALF)])
        self.assertEqual(machine, Machine("ab", BEGIN, ROADS, END))

    def test_unknown_sign(self):
        machine = Machine("ab", BEGIN, ROADS, END)
        for message, sign in (("c", "c"), ("abxay", "x"), ("a b", " "), ("aA", "A"), ("ba-", "-")):
            for deed in (machine, machine.courses):
                with self.assertRaises(UnknownSign) as caught:
                    deed(message)
                self.assertEqual(caught.exception.value, sign)
                with self.assertRaises(UnknownSign) as caught:
                    deed(message=message)
                self.assertEqual(caught.exception.value, sign)


class Courses(unittest.TestCase):
    def test_ordinary(self):
        machine = Machine("ab", BEGIN, ROADS, END)
        self.assertEqual(machine.courses("ab"), [([0, 0, 0], NONE), ([0, 1, 1], HALF)])
        self.assertEqual(machine.courses(message="b"), [([0, 0], NONE), ([1, 1], NONE)])

    def test_empty_message(self):
        machine = Machine("a", [(1, 2), NONE], [(0, "a", 0, ONE)], [(2, 3), ONE])
        self.assertEqual(machine.courses(""), [([0], (1, 3)), ([1], NONE)])

    def test_each_course_by_itself(self):
        machine = Machine("a", [ONE], [(0, "a", 0, HALF)] * 2, [ONE])
        self.assertEqual(machine.courses("a"), [([0, 0], HALF)] * 2)
        self.assertEqual(machine.courses("aa"), [([0, 0, 0], (1, 4))] * 4)

    def test_order_is_that_of_tuples(self):
        numbers = [(1, 1), (-1, 1), (2, 3), (1, 2), (0, 1), (1, 3), (3, 2)]
        roads = [(0, "a", 0, each) for each in numbers]
        found = Machine("a", [ONE], roads, [ONE]).courses("a")
        self.assertEqual([worth for _, worth in found], sorted(numbers))
        roads = [(0, "a", 2, NONE), (0, "a", 1, ONE), (0, "a", 10, ONE)]
        found = Machine("a", [ONE] * 11, roads, [ONE] * 11).courses("a")
        self.assertEqual(found, [([0, 1], ONE), ([0, 2], NONE), ([0, 10], ONE)])

    def test_courses_of_worth_0(self):
        for begin, by_road, end in ((NONE, ONE, ONE), (ONE, NONE, ONE), (ONE, ONE, NONE)):
            machine = Machine("a", [begin], [(0, "a", 0, by_road)], [end])
            self.assertEqual(machine.courses("a"), [([0, 0], NONE)])

    def test_none(self):
        self.assertEqual(Machine("ab", [ONE], [(0, "a", 0, ONE)], [ONE]).courses("ab"), [])

    def test_many_machines(self):
        source = random.Random(8)
        for _ in range(80):
            signs = source.choice(["a", "ab", "abc"])
            begin, roads, end = some_parts(source, signs, source.randint(0, 3), source.randint(0, 7))
            machine = Machine(signs, begin, roads, end)
            for message in messages_to(signs, 2) + ["".join(source.choice(signs) for _ in range(4))]:
                self.assertEqual(machine.courses(message), courses_of(begin, roads, end, message))

    def test_six_signs(self):
        roads = [(0, "a", 0, HALF), (0, "a", 1, ONE), (1, "a", 0, (-2, 3)), (1, "b", 1, (5, 7))]
        begin, end = [ONE, HALF], [(3, 1), (1, 9)]
        for message in ("aaaaaa", "aaabaa", "bbbbbb", "aababa"):
            wanted = courses_of(begin, roads, end, message)
            self.assertLessEqual(len(wanted), 400)
            self.assertEqual(Machine("ab", begin, roads, end).courses(message), wanted)

    def test_beginnings_that_no_course_ends(self):
        roads = [(0, "a", 0, ONE)] * 24
        self.assertEqual(Machine("ab", [ONE], roads, [ONE]).courses("aaaaab"), [])
        self.assertEqual(Machine("ab", [ONE], roads, [ONE]).courses("baaaaa"), [])
        # Of state 1 there are 21 ** 4 beginnings, none of which can be ended.
        roads = [(1, "a", 1, ONE)] * 21 + [(0, "a", 1, ONE), (0, "a", 0, ONE), (0, "b", 0, HALF)]
        machine = Machine("ab", [ONE] * 2, roads, [ONE] * 2)
        tracemalloc.start()
        found = machine.courses("aaaaab")
        most = tracemalloc.get_traced_memory()[1]
        tracemalloc.stop()
        self.assertEqual(found, [([0] * 7, HALF)])
        self.assertLess(most, 10 ** 6)

    def test_lists_are_new_each_time(self):
        machine = Machine("a", [ONE], [(0, "a", 0, HALF)] * 2, [ONE])
        for message in ("", "a", "aa"):
            first, second = machine.courses(message), machine.courses(message)
            rows = [states for states, _ in first + second]
            self.assertIsNot(first, second)
            self.assertEqual(len({id(row) for row in rows}), len(rows))
            rows[0].clear()
            first.pop()
            self.assertEqual(machine.courses(message), second)


class Equality(unittest.TestCase):
    def same(self, one, other):
        self.assertIs(one == other, True)
        self.assertIs(other == one, True)
        self.assertIs(one != other, False)
        self.assertIs(other != one, False)

    def unlike(self, one, other):
        self.assertIs(one == other, False)
        self.assertIs(other == one, False)
        self.assertIs(one != other, True)
        self.assertIs(other != one, True)

    def test_roads_in_any_order(self):
        machine = Machine("ab", BEGIN, ROADS, END)
        self.same(machine, machine)
        self.same(machine, Machine("ab", list(BEGIN), list(ROADS), list(END)))
        self.same(machine, Machine("ab", BEGIN, ROADS[::-1], END))
        self.same(machine, Machine("ab", BEGIN, ROADS[2:] + ROADS[:2], END))
        self.assertEqual(Machine("ab", BEGIN, ROADS[::-1], END).roads, ROADS[::-1])
        self.same(Machine("a", [], [], []), Machine("a", [], [], []))

    def test_alike_roads_as_often(self):
        one, other = (0, "a", 0, ONE), (0, "a", 0, HALF)
        self.same(Machine("a", [ONE], [one, other, one], [ONE]), Machine("a", [ONE], [other, one, one], [ONE]))
        self.unlike(Machine("a", [ONE], [one, other, one], [ONE]), Machine("a", [ONE], [other, one, other], [ONE]))
        self.unlike(Machine("a", [ONE], [one, one], [ONE]), Machine("a", [ONE], [one], [ONE]))

    def test_each_part_counts(self):
        machine = Machine("ab", BEGIN, ROADS, END)
        self.unlike(machine, Machine("abc", BEGIN, ROADS, END))
        self.unlike(machine, Machine("ab", [ONE, ONE], ROADS, END))
        self.unlike(machine, Machine("ab", BEGIN, ROADS, [NONE, HALF]))
        self.unlike(machine, Machine("ab", BEGIN, ROADS[:3], END))
        self.unlike(machine, Machine("ab", BEGIN, ROADS + [(0, "a", 0, NONE)], END))
        self.unlike(Machine("a", [], [], []), Machine("b", [], [], []))
        for road in ((1, "a", 0, ONE), (0, "b", 0, ONE), (0, "a", 1, ONE), (0, "a", 0, HALF)):
            self.unlike(machine, Machine("ab", BEGIN, [road] + ROADS[1:], END))

    def test_like_worths_are_not_enough(self):
        self.unlike(Machine("a", [ONE], [(0, "a", 0, (2, 1))], [ONE]),
                    Machine("a", [ONE], [(0, "a", 0, ONE)] * 2, [ONE]))

    def test_order_of_the_states_counts(self):
        self.unlike(Machine("a", [ONE, NONE], [], [ONE, ONE]), Machine("a", [NONE, ONE], [], [ONE, ONE]))

    def test_anything_else(self):
        class Likeness:
            signs, begin, roads, end = "ab", BEGIN, ROADS, END

        machine = Machine("ab", BEGIN, ROADS, END)
        for other in (None, True, 0, 2, "ab", "", b"ab", (), [], ("ab", BEGIN, ROADS, END), {}, set(),
                      Machine, object(), Likeness(), InvalidMachine(1), machine.courses):
            self.unlike(machine, other)
        self.unlike(Machine("a", [], [], []), None)

    def test_tariffs(self):
        machine = Machine("ab", BEGIN, ROADS, END)
        tariff = tariff_of(machine)
        self.unlike(machine, tariff)
        self.unlike(machine_of(tariff), tariff)
        self.unlike(Machine("a", [], [], []), tariff_of(Machine("a", [], [], [])))
        self.assertEqual(machine_of(tariff), machine_of(tariff_of(machine_of(tariff))))

    def test_members(self):
        machine = Machine("ab", BEGIN, ROADS, END)
        self.assertNotIn(machine, [None, "ab", 3])
        self.assertIn(machine, [None, Machine("ab", BEGIN, ROADS[::-1], END)])


if __name__ == "__main__":
    unittest.main()
