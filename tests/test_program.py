"""The files together: what one tells, another one takes; nothing is changed, kept or remembered."""

import random
import unittest

from cases import HALF, NONE, ONE, Case, lists_within, some_tariff
from plain import form_told, messages_to, pair_of, told
from textworths.books import Book, behind_book, first_double, is_one_way, ways as ways_of_book
from textworths.chances import after, evenly, expected, is_source, mixed, remembers, spread
from textworths.closures import (
    all_alike, behind, each, just, led, lengths, places, plus, powers, rest, scaled, spelled, turned,
)
from textworths.desks import Desk
from textworths.errors import WorthError
from textworths.machines import Machine
from textworths.numbers import added, number, power, product, quotient
from textworths.patterns import is_single, same_ways, ways
from textworths.questions import asked, fewest_messages, fitting, least_size, told_back
from textworths.readings import read_machine, read_pattern, read_tariff
from textworths.sums import counted, first_out, last_out, mean, recurrence, total, totals
from textworths.tariffs import Tariff, first_apart, free_ones, machine_of, tariff_of, told_by
from textworths.texts import show_machine, show_number, show_pattern, show_tariff

A, B, ANY = ("sign", "a"), ("sign", "b"), ("any",)


class Guarantees(Case):
    def test_alike_for_all_messages(self):
        source = random.Random(1)
        for _ in range(60):
            signs = source.choice(["a", "ab", "abc"])
            one, f = some_tariff(source, signs, source.randint(0, 3))
            other = plus(one, just(signs, source.choice(messages_to(signs, 2)))) if source.random() < 0.5 else \
                some_tariff(source, signs, source.randint(0, 3))[0]
            apart = first_apart(one, other)
            self.assertIs(apart is None, one == other)
            self.assertIs(apart is None, form_told(one) == form_told(other))
            if apart is not None:
                self.assertLess(len(apart), len(one) + len(other))

    def test_patterns_without_double_meaning(self):
        for text in ("(.* (a .*))", "(b* (a .*))", "((a + b) + .)", "((a b) + (a b))", "(a + (b a))*", "0", "1"):
            pattern = read_pattern(text)
            found = ways("ab", pattern)
            self.assertIs(is_single("ab", pattern), each(found, found) == found)

    def test_books(self):
        source = random.Random(2)
        for _ in range(40):
            words = ["".join(source.choice("ab") for _ in range(source.randint(1, 3))) for _ in range(3)]
            book = Book("xyz", words, "ab")
            found = ways_of_book(book)
            self.assertIs(is_one_way(book), each(found, found) == found)
            pattern = ("many", ("or", self.word(words[0]), ("or", self.word(words[1]), self.word(words[2]))))
            self.assertEqual(ways("ab", pattern), found)
            self.assertIs(is_single("ab", pattern), is_one_way(book))
            if is_one_way(book):
                tariff, _ = some_tariff(source, "xyz", 2)
                self.assertEqual(led(spelled(tariff, "ab", words), "xyz", words), tariff)

    def word(self, word):
        return ("sign", word) if len(word) == 1 else ("then", ("sign", word[0]), self.word(word[1:]))

    def test_recurrence_is_no_longer_than_the_size(self):
        source = random.Random(3)
        for _ in range(30):
            tariff, _ = some_tariff(source, source.choice(["a", "ab"]), source.randint(0, 3))
            self.assertLessEqual(len(recurrence(tariff)), len(tariff))
            if tariff.signs == "a":
                self.assertEqual(len(recurrence(tariff)), len(tariff))

    def test_short_messages_bind_a_tariff(self):
        source = random.Random(4)
        for size in (0, 1, 2, 3):
            tariff, _ = some_tariff(source, "ab", size)
            answers = [(message, tariff(message)) for message in asked("ab", size)]
            self.assertEqual(told_back("ab", size, answers), tariff)
            if size > 0:
                self.assertEqual(least_size("ab", size - 1, answers), len(tariff))


class OneToTheOther(Case):
    def test_totals_as_answers(self):
        tariff = plus(places("ab", "ab"), scaled(all_alike("ab", ONE), HALF))
        answers = [("z" * at, entry) for at, entry in enumerate(totals(tariff, 16))]
        back = told_back("z", 8, answers)
        self.assertEqual(len(back), len(recurrence(tariff)))
        self.assertEqual(back("z" * 50), total(tariff, 50))

    def test_ways_of_books_as_tariffs(self):
        book = Book("xy", ["a", "ab"], "ab")
        found = ways_of_book(book)
        self.assertEqual(read_tariff(show_tariff(found)), found)
        self.assertEqual(totals(found, 5), [ONE, ONE, (2, 1), (3, 1), (5, 1)])
        self.assertEqual(expected(evenly("ab"), found, 4), mean(found, 4))
        desk = Desk("ab")
        desk.put("book", found)
        self.assertEqual(desk.order("total book 10"), "89")
        doubled = Book("xy", ["a", "aa"], "a")
        self.assertEqual(ways_of_book(doubled)(first_double(doubled)[0]), (2, 1))

    def test_patterns_with_weights_as_sources(self):
        # With chance one half there is one sign more, `a` and `b` alike often.
        pattern = read_pattern("(1/4[a] + 1/4[b])*")
        found = scaled(ways("ab", pattern), ONE)
        self.assertIs(is_source(found), False)
        self.assertIs(is_source(ways("ab", read_pattern("(1/2[a] + 1/2[b])*"))), True)
        self.assertEqual(ways("ab", read_pattern("(1/3[a] + 2/3[b])*"))("abb"), (4, 27))
        mixture = mixed([ways("ab", read_pattern("(1/3[a] + 2/3[b])*")), evenly("ab")], [HALF, HALF])
        self.assertEqual(expected(mixture, places("ab", "a"), 12), (5, 1))
        self.assertEqual(remembers(after(mixture, "a"), 3), None)

    def test_texts_of_all(self):
        source = random.Random(5)
        for _ in range(20):
            tariff, _ = some_tariff(source, "ab", 2)
            for made in (tariff, turned(tariff), last_out(tariff), first_out(tariff), counted(tariff, "a"),
                         rest(tariff, "ab")):
                text = show_tariff(made)
                if all(len(word.strip("-")) < 10 for word in text.replace("/", " ").replace("=", " ").split(" ")):
                    self.assertEqual(read_tariff(text), made)
                machine = machine_of(made)
                self.assertEqual(tariff_of(machine), made)
        text = show_machine(machine_of(places("ab", "ab")))
        self.assertEqual(tariff_of(read_machine(text)), places("ab", "ab"))
        self.assertTrue(same_ways("ab", read_pattern(show_pattern(("many", ("or", A, B)))), ("many", ANY)))

    def test_books_behind_books(self):
        one, other = Book("uv", ["xy", "y"], "xy"), Book("xy", ["ab", "b"], "ab")
        both = behind_book(one, other)
        tariff = plus(places("uv", "u"), scaled(lengths("uv"), HALF))
        self.assertEqual(spelled(tariff, "ab", both.words), spelled(spelled(tariff, "xy", one.words), "ab", other.words))
        found = places("ab", "ab")
        self.assertEqual(led(found, "uv", both.words), led(led(found, "xy", other.words), "uv", one.words))

    def test_great_numbers(self):
        great = power((10 ** 9 + 7, 10 ** 9 + 9), 40)
        self.assertGreater(len(show_number(great)), 700)
        tariff = scaled(places("ab", "a"), great)
        self.assertEqual(tariff("aab"), product(great, (2, 1)))
        self.assertEqual(Tariff("ab", *form_told(tariff)), tariff)
        self.assertEqual(quotient(total(tariff, 3), great), (12, 1))
        machine = Machine("ab", [great], [(0, "a", 0, great)], [great])
        self.assertEqual(machine("aa"), power(great, 4))
        self.assertEqual(tariff_of(machine)("a"), power(great, 3))
        self.assertEqual(ways("ab", ("weigh", great, A))("a"), great)
        self.assertEqual(told_by(tariff, [places("ab", "a")]), [great])
        answers = [(message, tariff(message)) for message in asked("ab", 2)]
        self.assertEqual(told_back("ab", 2, answers), tariff)
        self.assertEqual(fitting([tariff, lengths("ab")], answers), [0])
        less = pair_of(1 - told(great))
        self.assertEqual(mixed([evenly("ab"), evenly("ab")], [great, less]), evenly("ab"))
        self.assertEqual(expected(evenly("ab"), tariff, 2), great)
        self.assertEqual(spread(evenly("ab"), tariff, 2), product(product(great, great), HALF))
        desk = Desk("ab")
        desk.put("a", tariff)
        desk.send("a", "aa")
        self.assertEqual(desk.ledger_sum(), added(great, great))
        self.assertEqual(desk.order("worth a a"), show_number(great))


class NothingIsKept(Case):
    def test_lists_handed_in(self):
        """Lists that were handed in may be changed afterwards."""
        begin, roads, end = [ONE, NONE], [(0, "a", 1, HALF), (1, "b", 0, ONE)], [NONE, ONE]
        machine = Machine("ab", begin, roads, end)
        tariff = tariff_of(machine)
        heads, table, worths = form_told(tariff)
        copy = Tariff("ab", heads, table, worths)
        words = ["a", "ab"]
        book = Book("xy", words, "ab")
        there, back = spelled(lengths("xy"), "ab", words), led(lengths("ab"), "xy", words)
        sources, shares = [evenly("ab")], [ONE]
        mixture = mixed(sources, shares)
        answers = [("", ONE), ("a", HALF)]
        fitted = told_back("a", 1, answers)
        before = [form_told(one) for one in (tariff, copy, there, back, mixture, fitted)] + [book.words, machine.roads]
        for held in (begin, roads, end, heads, table[0][0], table[0], table, worths, words, sources, shares, answers):
            held.clear()
        self.assertEqual(
            [form_told(one) for one in (tariff, copy, there, back, mixture, fitted)] + [book.words, machine.roads], before)
        self.assertEqual((machine("aba"), book.written("xy")), ((1, 4), "aab"))

    def test_new_lists(self):
        """What is told twice has no list in common, and none in two places."""
        tariff = plus(places("ab", "ab"), scaled(lengths("ab"), HALF))
        machine, book, desk = machine_of(tariff), Book("xy", ["a", "aa"], "a"), Desk("ab")
        desk.put("b", tariff)
        desk.put("a", tariff)
        desk.send("a", "ab")
        for deed in (lambda: form_told(tariff), lambda: (machine.begin, machine.roads, machine.end),
                     lambda: machine.courses("ab"), lambda: book.words, lambda: book.messages("aaa"),
                     lambda: totals(tariff, 5), lambda: recurrence(tariff), lambda: told_by(tariff, [tariff, tariff]),
                     lambda: free_ones([tariff, tariff]), lambda: asked("ab", 1), lambda: desk.ledger(),
                     lambda: desk.names(), lambda: desk.forks(), lambda: desk.same_as("a"),
                     lambda: fewest_messages([tariff, lengths("ab")], 2), lambda: fitting([tariff], [])):
            self.apart(deed(), deed())

    def test_lists_in_errors(self):
        deeds = [lambda: Machine("a", [ONE], [], []), lambda: Tariff("a", ["a"], [[[ONE]]], [ONE]),
                 lambda: Book("xy", ["a"], "a"), lambda: Book("xy", ["a", ""], "a"),
                 lambda: led(lengths("a"), "xy", ["a"]), lambda: spelled(lengths("a"), "xy", [""]),
                 lambda: after(lengths("ab"), ""), lambda: mixed([evenly("ab")], [HALF])]
        for deed in deeds:
            values = []
            for _ in range(2):
                with self.assertRaises(WorthError) as caught:
                    deed()
                values.append(caught.exception.value)
            self.apart(*values)
            self.assertGreater(len(lists_within(values[0])), 0)

    def test_refused_calls_change_no_answer(self):
        tariff, book = places("ab", "ab"), Book("xy", ["a", "ab"], "ab")
        asked_for = [lambda: form_told(tariff), lambda: tariff("abab"), lambda: total(tariff, 9),
                     lambda: form_told(powers(tariff, 3)), lambda: form_told(behind(tariff, tariff)),
                     lambda: book.decoded("aab"), lambda: form_told(ways_of_book(book)), lambda: number(4, 6)]
        first = [deed() for deed in asked_for]
        for deed in (lambda: tariff("abc"), lambda: total(tariff, -1), lambda: powers(tariff, -1),
                     lambda: book.decoded("c"), lambda: behind(tariff, lengths("a")), lambda: number(1, 0),
                     lambda: Tariff("ab", [""], [[[ONE], [ONE]]], []), lambda: read_tariff("ab | "),
                     lambda: ways("ab", ("many", ("empty",))), lambda: added((2, 4), ONE)):
            self.assertRaises(WorthError, deed)
            self.assertEqual([each_deed() for each_deed in asked_for], first)


if __name__ == "__main__":
    unittest.main()
