"""The examples of the document's sections, as they stand in it."""

import doctest
import unittest

EXAMPLES = {
    "numbers": '''
>>> from textworths.numbers import added, number, power, product, quotient
>>> [number(6, -4), added((1, 2), (1, 3)), product((2, 3), (3, 4)), quotient((1, 2), (3, 1)), power((2, 3), 3)]
[(-3, 2), (5, 6), (1, 2), (1, 6), (8, 27)]
''',
    "machines": '''
>>> from textworths.machines import Machine
>>> machine = Machine("ab", [(1, 1), (0, 1)], [(0, "a", 0, (1, 1)), (0, "a", 1, (1, 2)), (1, "b", 1, (1, 1)), (0, "b", 0, (1, 1))], [(0, 1), (1, 1)])
>>> [machine("a"), machine("aab"), machine(""), machine.courses("ab"), len(machine)]
[(1, 2), (1, 2), (0, 1), [([0, 0, 0], (0, 1)), ([0, 1, 1], (1, 2))], 2]
''',
    "tariffs": '''
>>> from textworths.machines import Machine
>>> from textworths.tariffs import first_apart, first_worth, free_ones, machine_of, tariff_of, told_by
>>> tariff = tariff_of(Machine("ab", [(1, 1), (0, 1)], [(0, "a", 0, (1, 1)), (0, "a", 1, (1, 1)), (1, "a", 1, (1, 1)), (1, "b", 1, (1, 1)), (0, "b", 0, (1, 1))], [(0, 1), (1, 1)]))
>>> [tariff.heads, tariff.worths, tariff.table, tariff("abaa"), len(tariff)]
[['', 'a'], [(0, 1), (1, 1)], [[[(0, 1), (1, 1)], [(1, 1), (0, 1)]], [[(-1, 1), (2, 1)], [(0, 1), (1, 1)]]], (3, 1), 2]
>>> one = tariff_of(Machine("ab", [(1, 1)], [(0, "a", 0, (1, 1)), (0, "b", 0, (1, 1))], [(1, 1)]))
>>> [first_apart(tariff, one), first_worth(tariff), told_by(one, [tariff]), free_ones([one, tariff, one]), machine_of(one) == Machine("ab", [(1, 1)], [(0, "b", 0, (1, 1)), (0, "a", 0, (1, 1))], [(1, 1)])]
['', 'a', None, [0, 1], True]
''',
    "closures": '''
>>> from textworths.closures import again, all_alike, behind, each, just, led, lengths, only, places, plus, rest, scaled, shuffled, spelled, turned, undone, within
>>> ones, long, ab = all_alike("ab", (1, 1)), lengths("ab"), places("ab", "ab")
>>> [ab("abab"), plus(ab, long)("abab"), scaled(long, (1, 2))("aaa"), each(long, long)("abb"), behind(ones, ones)("ab"), behind(ones, ones) == plus(ones, long), turned(ab) == places("ab", "ba")]
[(2, 1), (6, 1), (3, 2), (9, 1), (3, 1), True, True]
>>> [again(just("ab", "ab"))("abab"), rest(ab, "a")("bab"), led(long, "xy", ["ab", ""])("xyx"), spelled(all_alike("ab", (1, 1)), "c", ["c", "cc"])("cccc"), only(ones, "b")("bab"), len(ab), undone(plus(ones, long), ones) == ones, undone(just("ab", ""), ones)("b"), shuffled(just("ab", "a"), just("ab", "b"))("ba"), within(ones)("ab")]
[(1, 1), (2, 1), (4, 1), (5, 1), (0, 1), 3, True, (-1, 1), (1, 1), (6, 1)]
''',
    "patterns": '''
>>> from textworths.patterns import first_double, first_fit_apart, is_single, least_fit, readings, same_messages, same_ways, ways
>>> a, b, any_one = ("sign", "a"), ("sign", "b"), ("any",)
>>> twice = ("then", ("many", any_one), ("then", a, ("many", any_one)))
>>> [readings("ab", twice, "aba"), is_single("ab", twice), first_double("ab", twice), least_fit("ab", twice), is_single("ab", ("many", ("or", a, b))), same_ways("ab", ("many", any_one), ("many", ("or", a, b)))]
[2, False, 'aa', 'a', True, True]
>>> [same_messages("ab", twice, ("then", ("many", b), ("then", a, ("many", any_one)))), first_fit_apart("ab", ("many", a), ("many", any_one)), ways("ab", twice)("aaa")]
[True, 'b', (3, 1)]
''',
    "readings": '''
>>> from textworths.closures import places
>>> from textworths.readings import read_machine, read_number, read_pattern, read_tariff
>>> from textworths.texts import show_machine, show_number, show_pattern, show_tariff
>>> [show_number((-3, 2)), read_number("5"), show_pattern(("then", ("many", ("or", ("sign", "a"), ("any",))), ("weigh", (1, 2), ("sign", "b")))), read_pattern("((a b)* + 2[1])")]
['-3/2', (5, 1), '((a + .)* 1/2[b])', ('or', ('many', ('then', ('sign', 'a'), ('sign', 'b'))), ('weigh', (2, 1), ('empty',)))]
>>> [show_tariff(places("a", "a")), read_tariff("a | -=0 ; 0 1 | a=1 ; -1 2") == places("a", "a"), show_machine(read_machine("ab ; 1 0 ; 0 a 1 1/2 , 1 b 1 1 ; 0 1"))]
['a | -=0 ; 0 1 | a=1 ; -1 2', True, 'ab ; 1 0 ; 0 a 1 1/2 , 1 b 1 1 ; 0 1']
''',
    "sums": '''
>>> from textworths.closures import all_alike, places
>>> from textworths.sums import counted, first_total, first_unlike_total, last_out, mean, part_total, recurrence, total, totals
>>> ones, many = all_alike("ab", (1, 1)), places("ab", "a")
>>> [total(many, 3), totals(many, 4), mean(many, 3), recurrence(many), first_total(many), first_unlike_total(ones, many), part_total(ones, "a", 2, 3), last_out(ones)("ab"), counted(ones, "a") == many]
[(12, 1), [(0, 1), (1, 1), (4, 1), (12, 1)], (3, 2), [(4, 1), (-4, 1)], 1, 0, (3, 1), (2, 1), True]
''',
}


class Examples(unittest.TestCase):
    def test_examples(self):
        for name, text in EXAMPLES.items():
            with self.subTest(name):
                example = doctest.DocTestParser().get_doctest(text, {}, name, None, None)
                said = []
                results = doctest.DocTestRunner(verbose=False).run(example, out=said.append)
                self.assertGreater(results.attempted, 0)
                self.assertEqual(results.failed, 0, "".join(said))


if __name__ == "__main__":
    unittest.main()
