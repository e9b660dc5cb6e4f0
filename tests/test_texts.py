import random
import unittest

from cases import Case, nothing, some_tariff
from plain import form_told, some_number, some_parts
from plain_patterns import ANY, EMPTY, NEVER, some_pattern
from textworths.closures import all_alike, just, lengths, places
from textworths.machines import Machine
from textworths.tariffs import Tariff
from textworths.texts import show_machine, show_number, show_pattern, show_tariff

A, B = ("sign", "a"), ("sign", "b")


class Numbers(Case):
    def test_ordinary(self):
        for number, text in (((0, 1), "0"), ((5, 1), "5"), ((-5, 1), "-5"), ((1, 2), "1/2"), ((-3, 2), "-3/2"),
                             ((10, 1), "10"), ((-100, 7), "-100/7"), ((999999999, 999999998), "999999999/999999998")):
            self.assertEqual(show_number(number), text)
            self.assertEqual(show_number(number=number), text)

    def test_some(self):
        source = random.Random(1)
        for digits in (1, 2, 9, 30, 60, 61, 300):
            for _ in range(30):
                number = some_number(source, digits)
                above, bar, below = show_number(number).partition("/")
                self.assertEqual((int(above), int(below) if bar else 1), number)
                self.assertNotEqual(below, "1")

    def test_thousands_of_digits(self):
        for digits in (59, 60, 61, 119, 120, 121, 3999, 4000, 5000):
            for sign, above in (("", 1), ("-", -1)):
                self.assertEqual(show_number((above * 10 ** digits, 1)), sign + "1" + "0" * digits)
                number = (above * (10 ** digits - 1), 10 ** digits)
                self.assertEqual(show_number(number), sign + "9" * digits + "/1" + "0" * digits)
        text = "123456789012345678901234567" * 148
        self.assertEqual(show_number((int(text), 1)), text)
        self.assertEqual(show_number((1, int(text))), "1/" + text)


class Patterns(Case):
    def test_each_kind(self):
        for pattern, text in ((A, "a"), (("sign", "z"), "z"), (ANY, "."), (NEVER, "0"), (EMPTY, "1"),
                              (("then", A, B), "(a b)"), (("or", A, B), "(a + b)"), (("many", A), "a*"),
                              (("weigh", (1, 2), A), "1/2[a]"), (("weigh", (-3, 1), ANY), "-3[.]"),
                              (("weigh", (0, 1), NEVER), "0[0]"), (("weigh", (1, 1), EMPTY), "1[1]")):
            self.assertEqual(show_pattern(pattern), text)
            self.assertEqual(show_pattern(pattern=pattern), text)

    def test_parts_in_parts(self):
        for pattern, text in ((("many", ("many", A)), "a**"), (("many", ("many", ("many", EMPTY))), "1***"),
                              (("weigh", (1, 2), ("weigh", (-2, 1), B)), "1/2[-2[b]]"),
                              (("many", ("weigh", (2, 1), A)), "2[a]*"), (("weigh", (2, 1), ("many", A)), "2[a*]"),
                              (("then", ("then", A, B), ("or", A, ("many", ANY))), "((a b) (a + .*))"),
                              (("or", ("or", EMPTY, NEVER), EMPTY), "((1 + 0) + 1)"),
                              (("then", ("many", ("or", A, ANY)), ("weigh", (1, 2), B)), "((a + .)* 1/2[b])")):
            self.assertEqual(show_pattern(pattern), text)

    def test_weights_in_full(self):
        self.assertEqual(show_pattern(("weigh", (-10 ** 1000, 3), A)), "-1" + "0" * 1000 + "/3[a]")

    def test_deep(self):
        pattern, text = A, "a"
        for _ in range(20):
            pattern, text = ("then", pattern, ("many", B)), f"({text} b*)"
        self.assertEqual(show_pattern(pattern), text)

    def test_ten_parts(self):
        source = random.Random(2)
        for _ in range(50):
            pattern = some_pattern(source, "abc", 10, True)
            text = show_pattern(pattern)
            self.assertEqual(text.count("(") + text.count("[") + text.count("*"),
                             str(pattern).count("'then'") + str(pattern).count("'or'")
                             + str(pattern).count("'weigh'") + str(pattern).count("'many'"))
            self.assertEqual(text.count(" + "), str(pattern).count("'or'"))


class Machines(Case):
    def test_ordinary(self):
        roads = [(0, "a", 1, (1, 2)), (1, "b", 1, (1, 1))]
        machine = Machine("ab", [(1, 1), (0, 1)], roads, [(0, 1), (1, 1)])
        self.assertEqual(show_machine(machine), "ab ; 1 0 ; 0 a 1 1/2 , 1 b 1 1 ; 0 1")
        self.assertEqual(show_machine(machine=machine), "ab ; 1 0 ; 0 a 1 1/2 , 1 b 1 1 ; 0 1")

    def test_nothing(self):
        self.assertEqual(show_machine(Machine("a", [], [], [])), "a ; - ; - ; -")
        self.assertEqual(show_machine(Machine("abz", [(-1, 2)], [], [(3, 1)])), "abz ; -1/2 ; - ; 3")

    def test_roads_as_passed(self):
        roads = [(1, "b", 0, (2, 1)), (0, "a", 0, (0, 1)), (1, "b", 0, (2, 1)), (0, "a", 1, (-1, 3))]
        machine = Machine("ab", [(1, 1), (1, 1)], roads, [(0, 1), (0, 1)])
        self.assertEqual(show_machine(machine), "ab ; 1 1 ; 1 b 0 2 , 0 a 0 0 , 1 b 0 2 , 0 a 1 -1/3 ; 0 0")

    def test_many_states_and_signs(self):
        signs = "abcdefghijklmnopqrstuvwxyz"
        roads = [(at, sign, at + 1, (at, 1)) for at, sign in enumerate(signs)]
        text = show_machine(Machine(signs, [(1, 1)] * 27, roads, [(0, 1)] * 27))
        self.assertEqual(text, " ; ".join([
            signs, "1 " * 26 + "1", " , ".join(f"{at} {sign} {at + 1} {at}" for at, sign in enumerate(signs)),
            "0 " * 26 + "0"]))

    def test_what_is_handed_in_stays(self):
        source = random.Random(3)
        for _ in range(20):
            parts = some_parts(source, "ab", source.randint(0, 4), 8, 9)
            machine = Machine("ab", *parts)
            text = show_machine(machine)
            self.assertEqual((machine.begin, machine.roads, machine.end), parts)
            self.assertEqual(show_machine(machine), text)


class Tariffs(Case):
    def test_ordinary(self):
        self.assertEqual(show_tariff(places("a", "a")), "a | -=0 ; 0 1 | a=1 ; -1 2")
        self.assertEqual(show_tariff(tariff=lengths("ab")), "ab | -=0 ; 0 1 ; 0 1 | a=1 ; -1 2 ; -1 2")
        self.assertEqual(show_tariff(just("ab", "b")), "ab | -=0 ; 0 0 ; 0 1 | b=1 ; 0 0 ; 0 0")
        self.assertEqual(show_tariff(all_alike("xyz", (-1, 2))), "xyz | -=-1/2 ; 1 ; 1 ; 1")

    def test_no_heads(self):
        self.assertEqual(show_tariff(nothing()), "ab")
        self.assertEqual(show_tariff(nothing("z")), "z")

    def test_twelve_heads(self):
        text = show_tariff(just("a", "a" * 11))
        heads = text.split(" | ")
        self.assertEqual(len(heads), 13)
        self.assertEqual(heads[12], "aaaaaaaaaaa=1 ; " + "0 " * 11 + "0")
        self.assertEqual(heads[1], "-=0 ; 0 1" + " 0" * 10)

    def test_some(self):
        source = random.Random(4)
        for size in (1, 2, 3, 4):
            for signs in ("a", "ab", "abc"):
                tariff, _ = some_tariff(source, signs, size, 2)
                form = form_told(tariff)
                parts = [f"{head or '-'}={show_number(worth)}" + "".join(
                    " ; " + " ".join(map(show_number, row)) for row in rows)
                    for head, rows, worth in zip(*form)]
                self.assertEqual(show_tariff(tariff), " | ".join([signs] + parts))
                self.assertEqual(form_told(tariff), form)

    def test_long_numbers(self):
        number = (10 ** 4000 - 1, 10 ** 3999)
        self.assertEqual(show_tariff(Tariff("a", [""], [[[(1, 1)]]], [number])),
                         "a | -=" + "9" * 4000 + "/1" + "0" * 3999 + " ; 1")


if __name__ == "__main__":
    unittest.main()
