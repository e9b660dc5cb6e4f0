"""The examples of the document's sections, as they stand in it."""

import doctest
import unittest

EXAMPLES = {
    "numbers": '''
>>> from textworths.numbers import added, number, power, product, quotient
>>> [number(6, -4), added((1, 2), (1, 3)), product((2, 3), (3, 4)), quotient((1, 2), (3, 1)), power((2, 3), 3)]
[(-3, 2), (5, 6), (1, 2), (1, 6), (8, 27)]
''',
    "machines": '''
>>> from textworths.machines import Machine
>>> machine = Machine("ab", [(1, 1), (0, 1)], [(0, "a", 0, (1, 1)), (0, "a", 1, (1, 2)), (1, "b", 1, (1, 1)), (0, "b", 0, (1, 1))], [(0, 1), (1, 1)])
>>> [machine("a"), machine("aab"), machine(""), machine.courses("ab"), len(machine)]
[(1, 2), (1, 2), (0, 1), [([0, 0, 0], (0, 1)), ([0, 1, 1], (1, 2))], 2]
''',
    "tariffs": '''
>>> from textworths.machines import Machine
>>> from textworths.tariffs import first_apart, first_worth, free_ones, machine_of, tariff_of, told_by
>>> tariff = tariff_of(Machine("ab", [(1, 1), (0, 1)], [(0, "a", 0, (1, 1)), (0, "a", 1, (1, 1)), (1, "a", 1, (1, 1)), (1, "b", 1, (1, 1)), (0, "b", 0, (1, 1))], [(0, 1), (1, 1)]))
>>> [tariff.heads, tariff.worths, tariff.table, tariff("abaa"), len(tariff)]
[['', 'a'], [(0, 1), (1, 1)], [[[(0, 1), (1, 1)], [(1, 1), (0, 1)]], [[(-1, 1), (2, 1)], [(0, 1), (1, 1)]]], (3, 1), 2]
>>> one = tariff_of(Machine("ab", [(1, 1)], [(0, "a", 0, (1, 1)), (0, "b", 0, (1, 1))], [(1, 1)]))
>>> [first_apart(tariff, one), first_worth(tariff), told_by(one, [tariff]), free_ones([one, tariff, one]), machine_of(one) == Machine("ab", [(1, 1)], [(0, "b", 0, (1, 1)), (0, "a", 0, (1, 1))], [(1, 1)])]
['', 'a', None, [0, 1], True]
''',
    "closures": '''
>>> from textworths.closures import again, all_alike, behind, each, just, led, lengths, only, places, plus, rest, scaled, shuffled, spelled, turned, undone, within
>>> ones, long, ab = all_alike("ab", (1, 1)), lengths("ab"), places("ab", "ab")
>>> [ab("abab"), plus(ab, long)("abab"), scaled(long, (1, 2))("aaa"), each(long, long)("abb"), behind(ones, ones)("ab"), behind(ones, ones) == plus(ones, long), turned(ab) == places("ab", "ba")]
[(2, 1), (6, 1), (3, 2), (9, 1), (3, 1), True, True]
>>> [again(just("ab", "ab"))("abab"), rest(ab, "a")("bab"), led(long, "xy", ["ab", ""])("xyx"), spelled(all_alike("ab", (1, 1)), "c", ["c", "cc"])("cccc"), only(ones, "b")("bab"), len(ab), undone(plus(ones, long), ones) == ones, undone(just("ab", ""), ones)("b"), shuffled(just("ab", "a"), just("ab", "b"))("ba"), within(ones)("ab")]
[(1, 1), (2, 1), (4, 1), (5, 1), (0, 1), 3, True, (-1, 1), (1, 1), (6, 1)]
''',
    "patterns": '''
>>> from textworths.patterns import first_double, first_fit_apart, is_single, least_fit, readings, same_messages, same_ways, ways
>>> a, b, any_one = ("sign", "a"), ("sign", "b"), ("any",)
>>> twice = ("then", ("many", any_one), ("then", a, ("many", any_one)))
>>> [readings("ab", twice, "aba"), is_single("ab", twice), first_double("ab", twice), least_fit("ab", twice), is_single("ab", ("many", ("or", a, b))), same_ways("ab", ("many", any_one), ("many", ("or", a, b)))]
[2, False, 'aa', 'a', True, True]
>>> [same_messages("ab", twice, ("then", ("many", b), ("then", a, ("many", any_one)))), first_fit_apart("ab", ("many", a), ("many", any_one)), ways("ab", twice)("aaa")]
[True, 'b', (3, 1)]
''',
    "readings": '''
>>> from textworths.closures import places
>>> from textworths.readings import read_machine, read_number, read_pattern, read_tariff
>>> from textworths.texts import show_machine, show_number, show_pattern, show_tariff
>>> [show_number((-3, 2)), read_number("5"), show_pattern(("then", ("many", ("or", ("sign", "a"), ("any",))), ("weigh", (1, 2), ("sign", "b")))), read_pattern("((a b)* + 2[1])")]
['-3/2', (5, 1), '((a + .)* 1/2[b])', ('or', ('many', ('then', ('sign', 'a'), ('sign', 'b'))), ('weigh', (2, 1), ('empty',)))]
>>> [show_tariff(places("a", "a")), read_tariff("a | -=0 ; 0 1 | a=1 ; -1 2") == places("a", "a"), show_machine(read_machine("ab ; 1 0 ; 0 a 1 1/2 , 1 b 1 1 ; 0 1"))]
['a | -=0 ; 0 1 | a=1 ; -1 2', True, 'ab ; 1 0 ; 0 a 1 1/2 , 1 b 1 1 ; 0 1']
''',
    "sums": '''
>>> from textworths.closures import all_alike, places
>>> from textworths.sums import counted, first_total, first_unlike_total, last_out, mean, part_total, recurrence, total, totals
>>> ones, many = all_alike("ab", (1, 1)), places("ab", "a")
>>> [total(many, 3), totals(many, 4), mean(many, 3), recurrence(many), first_total(many), first_unlike_total(ones, many), part_total(ones, "a", 2, 3), last_out(ones)("ab"), counted(ones, "a") == many]
[(12, 1), [(0, 1), (1, 1), (4, 1), (12, 1)], (3, 2), [(4, 1), (-4, 1)], 1, 0, (3, 1), (2, 1), True]
''',
    "chances": '''
>>> from textworths.chances import after, evenly, expected, first_seen_at, independent, is_source, mixed, remembers, seen_by, spread
>>> from textworths.closures import places
>>> from textworths.tariffs import Tariff
>>> even = evenly("ab")
>>> keeps = Tariff("ab", ["", "a"], [[[(0, 1), (1, 1)], [(1, 1), (-1, 1)]], [[(0, 1), (2, 3)], [(1, 3), (-1, 3)]]], [(1, 1), (1, 2)])
>>> [even("ab"), is_source(keeps), is_source(places("ab", "a")), expected(even, places("ab", "a"), 3), spread(even, places("ab", "a"), 3), seen_by(even, "a", 2), first_seen_at(even, "ab", 3), independent(even), remembers(even, 2), remembers(keeps, 2)]
[(1, 4), True, False, (3, 2), (3, 4), (3, 4), (1, 4), True, 0, 1]
>>> [keeps("aa"), after(keeps, "a")("a"), after(keeps, "a")("b"), mixed([even, keeps], [(1, 2), (1, 2)])("aa")]
[(1, 3), (2, 3), (1, 3), (7, 24)]
''',
    "books": '''
>>> from textworths.books import Book, behind_book, delay, first_common, first_double, is_full, is_one_way, is_plain, measure, sure_beginning, ways
>>> late, twofold = Book("xyz", ["a", "ab", "bb"], "ab"), Book("xy", ["a", "aa"], "a")
>>> [late.written("xz"), late.decoded("abb"), is_one_way(late), is_plain(late), delay(late), delay(Book("xy", ["a", "ab"], "ab")), measure(late), is_full(late), sure_beginning(late, "ab"), sure_beginning(late, "aa")]
['abb', 'xz', True, False, None, 1, (1, 1), True, '', 'x']
>>> [first_double(twofold), twofold.messages("aaa"), twofold.decoded("aa"), ways(twofold)("aaa"), len(late), first_common(Book("x", ["aab"], "ab"), late), behind_book(Book("u", ["xz"], "xyz"), late).words]
[('aa', 'y', 'xx'), ['xy', 'yx', 'xxx'], None, (3, 1), 3, 'aab', ['abb']]
''',
    "questions": '''
>>> from textworths.closures import all_alike, lengths
>>> from textworths.questions import asked, fewest_messages, first_false, fitting, least_size, next_message, told_back
>>> [asked("ab", 1), next_message("ab", 1, [("", (1, 1))]), told_back("a", 1, [("a", (2, 1)), ("", (1, 1))])("aaaa"), told_back("a", 1, [("", (0, 1)), ("a", (1, 1))]), least_size("a", 1, [("", (0, 1)), ("a", (1, 1)), ("aa", (2, 1))])]
[['', 'a', 'b'], 'a', (16, 1), None, 2]
>>> [first_false(lengths("a"), [("a", (1, 1)), ("aa", (3, 1))]), fitting([lengths("a"), all_alike("a", (1, 1))], [("a", (1, 1))]), fewest_messages([lengths("a"), all_alike("a", (1, 1)), all_alike("a", (2, 1))], 2)]
[('aa', (3, 1)), [0, 1], ['']]
''',
    "desks": '''
>>> from textworths.desks import Desk
>>> desk = Desk("ab")
>>> told = [desk.order("pattern as (.* (a .*))"), desk.order("pattern all .*"), desk.order("behind two all all"), desk.order("worth as aba"), desk.order("apart as two"), desk.order("send as aab"), desk.order("branch b"), desk.order("scaled as as 1/2")]
>>> told
['done', 'done', 'done', '2', '-', 'done', 'done', 'done']
>>> [desk.order("send as aab"), desk.order("sum"), desk.order("ledger"), desk.order("switch b"), desk.order("worth as aba"), desk.order("sum"), len(desk), desk.order("undo"), desk.order("total as 3"), desk.names()]
['done', '3', 'as aab 2 | as aab 1', 'done', '2', '2', 8, 'done', '6', ['all', 'as', 'two']]
''',
}


class Examples(unittest.TestCase):
    def test_examples(self):
        for name, text in EXAMPLES.items():
            with self.subTest(name):
                example = doctest.DocTestParser().get_doctest(text, {}, name, None, None)
                said = []
                results = doctest.DocTestRunner(verbose=False).run(example, out=said.append)
                self.assertGreater(results.attempted, 0)
                self.assertEqual(results.failed, 0, "".join(said))


if __name__ == "__main__":
    unittest.main()
