import random
import unittest
from itertools import product
from math import gcd

from cases import Case, some_tariff
from plain import form_told, some_number, some_parts
from plain_patterns import some_pattern
from textworths.closures import just, lengths, places
from textworths.errors import Unreadable
from textworths.machines import Machine
from textworths.readings import read_machine, read_number, read_pattern, read_tariff
from textworths.tariffs import Tariff
from textworths.texts import show_machine, show_number, show_pattern, show_tariff

READERS = [read_number, read_pattern, read_machine, read_tariff]
MACHINE = "ab ; 1 0 ; 0 a 1 1/2 , 1 b 1 1 ; 0 1"
TARIFF = "ab | -=0 ; 0 1 ; 0 1 | a=1 ; -1 2 ; -1 2"
PATTERN = "((a b)* + 2[1])"
MARKS = [chr(code) for code in range(32, 127) if chr(code) != "%"]


def kinds(thing):
    """The kinds of a thing and of all within it."""
    if isinstance(thing, (list, tuple)):
        return (type(thing), [kinds(part) for part in thing])
    return type(thing)


def one_changed(text):
    """Texts with one mark less, more or changed, or two exchanged."""
    found = set()
    for at in range(len(text) + 1):
        found.add(text[:at] + text[at + 1:])
        for mark in " -/0129+*()[].;,|=abczAZ~":
            found.add(text[:at] + mark + text[at:])
            found.add(text[:at] + mark + text[at + 1:])
        found.add(text[:at] + text[at + 1:at + 2] + text[at:at + 1] + text[at + 2:])
    found.discard(text)
    return sorted(found)


class Read(Case):
    def refused(self, reader, text):
        self.raises(Unreadable, text, reader, text)

    def tried(self, reader, shower, text):
        """Whether a text can be read; what is read has just this text."""
        try:
            found = reader(text)
        except Unreadable as error:
            self.assertIs(type(error), Unreadable)
            self.assertEqual(error.value, text)
            return False
        self.assertEqual(shower(found), text)
        return True

    def test_texts_that_nothing_has(self):
        source = random.Random(11)
        texts = ["", " ", "A", "B", "Ab", "-", "--", "+", "*", "(", ")", "()", "[]", "a b", " a", "a ", "~", "!", "\\"]
        texts += ["".join(source.choice(MARKS) for _ in range(source.randint(4, 30))) for _ in range(300)]
        texts += ["".join(source.choice(MARKS) for _ in range(3000)), "x" * 3000, " " * 3000, "9" * 3000, "-" * 3000,
                  "a ; " * 750, "a | " * 750, "(a b" * 750, "a " * 1500, "1/" * 1500, "ab" * 1500, ") " * 1500]
        for text in texts:
            for reader in READERS:
                self.refused(reader, text)
        for reader in READERS:
            self.raises(Unreadable, "", reader, text="")

    def test_other_kinds_of_texts(self):
        for text in ("1/2", MACHINE, TARIFF):
            self.refused(read_pattern, text)
        for text in (PATTERN, MACHINE, TARIFF, "a", "."):
            self.refused(read_number, text)
        for text in ("1/2", PATTERN, MACHINE):
            self.refused(read_tariff, text)
        for text in ("1/2", PATTERN, TARIFF, "ab"):
            self.refused(read_machine, text)


class Numbers(Read):
    def test_ordinary(self):
        for text, number in (("0", (0, 1)), ("5", (5, 1)), ("-5", (-5, 1)), ("1/2", (1, 2)), ("-7/3", (-7, 3)),
                             ("999999999", (999999999, 1)), ("-999999999/999999998", (-999999999, 999999998))):
            self.assertEqual(read_number(text), number)
            self.assertEqual(read_number(text=text), number)
            self.assertEqual(kinds(read_number(text)), (tuple, [int, int]))

    def test_all_short_texts(self):
        numbers = [(above, below) for below in range(1, 100) for above in range(-999, 10000)
                   if len(str(above)) + (below > 1) * (1 + len(str(below))) <= 4 and gcd(above, below) == 1]
        wanted = {show_number(number): number for number in numbers}
        for length in range(5):
            for marks in product("-/0123456789", repeat=length):
                text = "".join(marks)
                if text in wanted:
                    self.assertEqual(read_number(text), wanted[text])
                else:
                    self.refused(read_number, text)

    def test_wrong(self):
        for text in ("1234567890", "-1234567890", "1/1234567890", "0123456789", "00", "01", "-01", "-0", "--1", "+1",
                     "1/1", "-1/1", "1/0", "0/1", "0/2", "2/4", "-2/4", "1/-2", "-1/-2", "1//2", "/2", "1/", "1/02",
                     "01/2", "-0/2", "1 / 2", " 1", "1 ", "1/ 2", "1/2/3", "1.5", "1e3", "0x1", "1_000", "\u0661",
                     "\u00b2", "1/2 ", "1\n", "True", "None"):
            self.refused(read_number, text)

    def test_some(self):
        source = random.Random(12)
        for digits in (1, 2, 5, 9):
            for _ in range(50):
                number = some_number(source, digits)
                self.assertEqual(read_number(show_number(number)), number)


class Patterns(Read):
    def test_ordinary(self):
        a, b = ("sign", "a"), ("sign", "b")
        self.assertEqual(read_pattern(PATTERN),
                         ("or", ("many", ("then", a, b)), ("weigh", (2, 1), ("empty",))))
        for text, pattern in (("a", a), ("z", ("sign", "z")), (".", ("any",)), ("0", ("none",)), ("1", ("empty",)),
                              ("(a b)", ("then", a, b)), ("(a + b)", ("or", a, b)), ("a**", ("many", ("many", a))),
                              ("1[1]", ("weigh", (1, 1), ("empty",))), ("0[0]*", ("many", ("weigh", (0, 1), ("none",)))),
                              ("-1/2[3[a]]", ("weigh", (-1, 2), ("weigh", (3, 1), a))), ("1*", ("many", ("empty",))),
                              ("(0 1)", ("then", ("none",), ("empty",))), ("(1 + 0)*", ("many", ("or", ("empty",), ("none",)))),
                              ("(10[a] b)", ("then", ("weigh", (10, 1), a), b))):
            self.assertEqual(read_pattern(text), pattern)
            self.assertEqual(read_pattern(text=text), pattern)
            self.assertEqual(show_pattern(read_pattern(text)), text)

    def test_all_short_texts(self):
        """Each text of some marks to a length is readable exactly if some pattern has it."""
        by_length = {1: ["a", ".", "0", "1"]}
        for length in range(2, 7):
            found = [text + "*" for text in by_length[length - 1]]
            for number in ("0", "1", "10", "11", "00"):
                if number != "00":
                    found += [f"{number}[{text}]" for text in by_length.get(length - 2 - len(number), [])]
            for between in (" ", " + "):
                left = length - 2 - len(between)
                found += [f"({one}{between}{other})" for size in range(1, left)
                          for one in by_length[size] for other in by_length.get(left - size, [])]
            by_length[length] = found
        wanted = {text for texts in by_length.values() for text in texts}
        self.assertEqual(len(wanted), sum(map(len, by_length.values())))
        for length in range(6):
            for marks in product("a.01(+) *[]", repeat=length):
                text = "".join(marks)
                self.assertEqual(self.tried(read_pattern, show_pattern, text), text in wanted, text)
        for text in by_length[6]:
            self.assertTrue(self.tried(read_pattern, show_pattern, text), text)

    def test_wrong(self):
        for text in ("(a)", "(a b", "a b)", "((a b)", "(a b))", "(a  b)", "( a b)", "(a b )", "(a+b)", "(a +b)",
                     "(a+ b)", "(a  + b)", "(a +  b)", "(a + b c)", "(a b c)", "(a + b + c)", "ab", "*", "*a", "a *",
                     "1/2", "2", "10", "-1", "2[a", "2a]", "2[]", "2[a]]", "2 [a]", "2[ a]", "[a]", "a[b]", "2/4[a]",
                     "1/1[a]", "-0[a]", "01[a]", "1234567890[a]", "1/0[a]", "A", "(A b)", "a*b", "(a b]", "2[a)",
                     "(2[a b])", "2[(a b])", "..", "00", "01", "11", "0.5[a]", "a?", "()", "(+)", "( + )", "(a + )",
                     "\u00e4", "a\n"):
            self.refused(read_pattern, text)

    def test_some(self):
        source = random.Random(13)
        for parts in (1, 2, 3, 5, 10, 20):
            for _ in range(30):
                pattern = some_pattern(source, "abcdefghijklmnopqrstuvwxyz", parts, True)
                found = read_pattern(show_pattern(pattern))
                self.assertEqual(found, pattern)
                self.assertEqual(kinds(found), kinds(pattern))

    def test_one_changed(self):
        seen = [0, 0]
        for text in (PATTERN, "(1/2[a*] + (b .)**)"):
            for changed in one_changed(text):
                seen[self.tried(read_pattern, show_pattern, changed)] += 1
        self.assertGreater(min(seen), 50)

    def test_deep(self):
        for deepen in (lambda text: f"(a {text})", lambda text: f"({text} + b)", lambda text: text + "*",
                       lambda text: f"1/2[{text}]"):
            text = "."
            for _ in range(19):
                text = deepen(text)
            self.assertTrue(self.tried(read_pattern, show_pattern, text))
            self.assertFalse(self.tried(read_pattern, show_pattern, text + " "))
            self.assertFalse(self.tried(read_pattern, show_pattern, text + ")"))
            self.assertFalse(self.tried(read_pattern, show_pattern, "(" + text))

    def test_long(self):
        level = ["a"] * 512
        while len(level) > 1:
            level = [f"({one} + {other})" for one, other in zip(level[::2], level[1::2])]
        self.assertGreater(len(level[0]), 3000)
        self.assertTrue(self.tried(read_pattern, show_pattern, level[0]))
        self.refused(read_pattern, "(a " * 1000)
        self.refused(read_pattern, "(a " * 999 + "a" + ")" * 998)


class Machines(Read):
    def test_ordinary(self):
        machine = read_machine(MACHINE)
        self.assertIs(type(machine), Machine)
        self.assertEqual(machine.signs, "ab")
        self.assertEqual(machine.begin, [(1, 1), (0, 1)])
        self.assertEqual(machine.roads, [(0, "a", 1, (1, 2)), (1, "b", 1, (1, 1))])
        self.assertEqual(machine.end, [(0, 1), (1, 1)])
        self.assertEqual(machine("ab"), (1, 2))
        self.assertEqual(read_machine(text="a ; - ; - ; -"), Machine("a", [], [], []))
        self.assertEqual(read_machine("xz ; 1 ; - ; -1/2"), Machine("xz", [(1, 1)], [], [(-1, 2)]))

    def test_some(self):
        source = random.Random(14)
        for signs in ("a", "ab", "bxz", "abcdefghijklmnopqrstuvwxyz"):
            for size in (0, 1, 2, 6, 30):
                parts = some_parts(source, signs, size, source.randint(0, 40), source.choice([1, 9]))
                machine = Machine(signs, *parts)
                found = read_machine(show_machine(machine))
                self.assertEqual(found, machine)
                self.assertEqual((found.signs, found.begin, found.roads, found.end), (signs, *parts))
                self.assertEqual(kinds(found.roads), kinds(machine.roads))
                self.assertEqual(show_machine(found), show_machine(machine))

    def test_wrong(self):
        for text in ("ab ; 1 0 ; 0 a 1 1/2 ; 0", "ab ; 1 ; - ; 0 1", "ab ; 1 ; 0 a 1 1 ; 1", "ab ; 1 ; 1 a 0 1 ; 1",
                     "ab ; 1 ; -1 a 0 1 ; 1", "ab ; 1 ; 0 c 0 1 ; 1", "ab ; 1 ; 0 ab 0 1 ; 1", "ab ; 1 ; 0  0 1 ; 1",
                     "ab ; 1 ; 0 a 0 2/4 ; 1", "ab ; 2/2 ; - ; 1", "ab ; 1 ; - ; 1/1", "ba ; - ; - ; -", " ; - ; - ; -",
                     "aa ; - ; - ; -", "- ; - ; - ; -", "a ; - ; -", "a ; - ; - ; - ; -", "a ;- ; - ; -", "a ; - ; -; -",
                     "a ;  - ; - ; -", "a ;  ; - ; -", "a ; - ; - ; - ", " a ; - ; - ; -", "a ; 1 ; 0 a 0 ; 1",
                     "a ; 1 ; 0 a 0 1 1 ; 1", "a ; 1 ; 0 a 00 1 ; 1", "a ; 1 ; 0 a -0 1 ; 1", "a ; 1 ; 0 a 0 1, ; 1",
                     "a ; 1 ; 0 a 0 1 , ; 1", "a ; 1 ; , 0 a 0 1 ; 1", "a ; 1 ; 0 a 0 1,0 a 0 1 ; 1", "a ; 1  1 ; - ; 1 1",
                     "a ; 1 ; - , 0 a 0 1 ; 1", "a ; 1 - ; - ; 1 1", "A ; - ; - ; -", "a ; 1 ; 0 A 0 1 ; 1",
                     "a ; 1234567890 ; - ; 1", "a ; 1 ; 0 a 0 1234567890 ; 1", "a ; 1 ; 0 a 1234567890 1 ; 1"):
            self.refused(read_machine, text)

    def test_one_changed(self):
        seen = [0, 0]
        for text in (MACHINE, "a ; - ; - ; -", "abc ; 1/2 ; 0 a 0 -1 , 0 a 0 -1 ; 3"):
            for changed in one_changed(text):
                seen[self.tried(read_machine, show_machine, changed)] += 1
        self.assertGreater(min(seen), 50)


class Tariffs(Read):
    def test_ordinary(self):
        self.assertEqual(read_tariff("a | -=0 ; 0 1 | a=1 ; -1 2"), places("a", "a"))
        found = read_tariff(text=TARIFF)
        self.assertIs(type(found), Tariff)
        self.assertEqual(found, lengths("ab"))
        self.assertEqual(kinds(found.table), kinds(lengths("ab").table))
        self.assertEqual(form_told(read_tariff("ab")), ([], [], []))
        self.assertEqual(form_told(read_tariff("abcxyz")), ([], [], []))

    def test_some(self):
        source = random.Random(15)
        for signs in ("a", "ab", "abc"):
            for size in (0, 1, 2, 3):
                for _ in range(6):
                    tariff, _ = some_tariff(source, signs, size)
                    text = show_tariff(tariff)
                    if all(len(word.strip("-")) < 10 for word in text.replace("/", " ").replace("=", " ").split(" ")):
                        found = read_tariff(text)
                        self.assertEqual(form_told(found), form_told(tariff))
                        self.assertEqual(kinds(form_told(found)), kinds(form_told(tariff)))
                        self.assertEqual(show_tariff(found), text)

    def test_twelve_heads(self):
        for tariff in (just("a", "a" * 11), just("abc", "abcabcabcab"), places("ab", "abbabbabbab")):
            self.assertEqual(len(tariff), 12)
            self.assertEqual(read_tariff(show_tariff(tariff)), tariff)

    def test_wrong(self):
        for text in ("", "ba", " | ", "ab | ", "ab |", "ab | -=0", "ab | -=1 ; 1", "ab | -=1 ; 1 ; 1 ; 1",
                     "a | -=0 ; 1", "a | a=1 ; 1", "a | =1 ; 1", "a | -=1 ; 1 1", "a | -=1 ; ", "a | - =1 ; 1",
                     "a | -= 1 ; 1", "a | -=1 ;  1", "a | -=1  ; 1", "a | -=1;1", "a| -=1 ; 1", "a | -=1 ; 1 | ",
                     "a | -=1/1 ; 1", "a | -=1 ; 2/2", "a | -=01 ; 1", "a | -=-0 ; 1", "a | -=1=1 ; 1", "a | --=1 ; 1",
                     "a | -=1 ; 1 ", " a | -=1 ; 1", "a | -=1 ; -", "a | - ; 1", "a | 1 ; 1", "aa | -=1 ; 1 ; 1",
                     "a | -=0 ; 0 1 | a=1 ; -1 2 | a=1 ; -1 2", "a | a=1 ; 1 0 | -=0 ; 0 1", "a | -=0 ; 0 1 | b=1 ; -1 2",
                     "a | -=0 ; 1 0 | a=1 ; -1 2", "a | -=0 ; 0 1 | aa=1 ; -1 2", "a | -=1 ; 0 1 | a=1 ; 1 0",
                     "a | -=1 ; 1234567890", "A | -=1 ; 1"):
            self.refused(read_tariff, text)

    def test_one_changed(self):
        seen = [0, 0]
        for text in ("a | -=0 ; 0 1 | a=1 ; -1 2", "ab", TARIFF, "ab | -=1/2 ; 3 ; -1/2"):
            for changed in one_changed(text):
                seen[self.tried(read_tariff, show_tariff, changed)] += 1
        self.assertGreater(min(seen), 50)

    def test_long(self):
        for tariff in (just("ab", "ab" * 20), places("abc", "abc" * 5)):
            text = show_tariff(tariff)
            self.assertGreater(len(text), 900)
            self.assertEqual(read_tariff(text), tariff)
            self.refused(read_tariff, text + " ")
            self.refused(read_tariff, text[:-1])


if __name__ == "__main__":
    unittest.main()
