import random
import unittest
from fractions import Fraction

from plain import messages_to, some_parts, sum_of, told, worth_of
from textworths.forms import form_of, worths_of
from textworths.free import Free
from textworths.machines import Machine
from textworths.spaces import PRIME, PrimeSpace, Space
from textworths.steps import steps_by
from textworths.tariffs import Tariff, first_apart, first_worth_by, tariff_of
from textworths.views import PRIME as views_prime, is_seen_apart, views, whole_views

ONE, NONE = (1, 1), (0, 1)


def dense(row, width):
    return [Fraction(row.get(column, 0)) for column in range(width)]


def dense_row(row):
    return [Fraction(entry) for entry in row]


def some_rows(source, width, many):
    rows = []
    for _ in range(many):
        row = {column: source.randint(-3, 3) for column in range(width)}
        rows.append({column: entry for column, entry in row.items() if entry})
    return rows


class Spaces(unittest.TestCase):
    def test_what_is_left(self):
        source = random.Random(71)
        for _ in range(60):
            width = source.randint(1, 5)
            space, quick, taken = Space(), PrimeSpace(), []
            for row in some_rows(source, width, 7):
                held = dict(row)
                left, left_quick = space.left_of(row), quick.left_of(row)
                self.assertEqual(row, held)
                is_free = sum_of(taken, dense(row, width)) is None
                self.assertEqual([left != {}, left_quick != {}], [is_free, is_free])
                self.assertNotIn(0, list(left.values()) + list(left_quick.values()))
                if is_free:
                    taken.append(dense(row, width))
                    space.take(left)
                    quick.take(left_quick)
                self.assertEqual([len(space), len(quick)], [len(taken)] * 2)
            for each in space.rows() + quick.guesses():
                self.assertIsNotNone(sum_of(taken, dense(each, width)))
            leads = [min(each) for each in space.rows()]
            self.assertEqual(sorted(leads), sorted(min(each) for each in quick.guesses()))
            for each in space.rows():
                self.assertEqual([lead in each for lead in leads].count(True), 1)

    def test_free_rows_tell_others(self):
        source = random.Random(72)
        for _ in range(60):
            width = source.randint(1, 5)
            free, taken = Free(width), []
            for row in some_rows(source, width, 8):
                row = [row.get(column, 0) for column in range(width)]
                held = list(row)
                found = free.told(row)
                self.assertEqual(row, held)
                wanted = sum_of(taken, dense_row(row))
                if wanted is None:
                    taken.append(dense_row(row))
                    self.assertIsNone(found)
                else:
                    below, aboves = found
                    self.assertEqual([Fraction(above, below) for above in aboves], wanted)

    def test_the_prime(self):
        self.assertEqual(PRIME, 2 ** 127 - 1)
        quick = PrimeSpace()
        self.assertEqual(quick.left_of({0: PRIME, 1: -PRIME}), {})
        quick.take(quick.left_of({0: 3, 1: 5, 2: -1}))
        self.assertEqual(quick.guesses(), [{0: 3, 1: 5, 2: -1}])


class Forms(unittest.TestCase):
    """Where the prime tells too little, or too much, whole numbers decide."""

    def test_multiples_of_the_prime(self):
        for prime in (PRIME, views_prime):
            one = tariff_of(Machine("a", [ONE], [(0, "a", 0, ONE)], [(prime, 1)]))
            self.assertEqual([one.heads, one.worths], [[""], [(prime, 1)]])
            roads = [(0, "a", 1, (prime, 1)), (1, "b", 1, (1, prime))]
            machine = Machine("ab", [ONE, NONE], roads, [ONE, (prime, 1)])
            tariff = tariff_of(machine)
            self.assertEqual(tariff.heads, ["", "a"])
            self.assertEqual(Tariff("ab", tariff.heads, tariff.table, tariff.worths), tariff)
            for message in messages_to("ab", 3):
                self.assertEqual(tariff(message), machine(message))

    def test_numbers_alike_but_for_the_prime(self):
        for prime in (PRIME, views_prime):
            roads = [(0, "a", 0, ONE), (1, "a", 1, (prime + 1, 1))]
            tariff = tariff_of(Machine("a", [ONE, ONE], roads, [ONE, (-1, 1)]))
            self.assertEqual([len(tariff), tariff("a")], [2, (-prime, 1)])
            one = tariff_of(Machine("a", [ONE], roads[:1], [ONE]))
            other = tariff_of(Machine("a", [ONE], [(0, "a", 0, (prime + 1, 1))], [ONE]))
            self.assertEqual(first_apart(one, other), "a")
            self.assertFalse(one == other)

    def test_numbers_too_long_to_be_guessed(self):
        source = random.Random(73)
        for _ in range(10):
            begin, roads, end = some_parts(source, "ab", 3, 10, 9)
            # A second copy whose states are those of the first one, all mixed.
            twice = roads + [(state + 3, sign, goal + 3, number) for state, sign, goal, number in roads]
            steps = steps_by("ab", begin + begin, twice, end + end)
            self.assertEqual(len(views(steps)), 3)
            form = form_of("ab", steps)
            self.assertLessEqual(len(form.firsts), 3)
            for head, worth in zip(form.firsts, worths_of(form.steps)):
                self.assertEqual(told(worth), 2 * told(worth_of(begin, roads, end, head)))

    def test_many_states(self):
        source = random.Random(75)
        for many in (1, 4, 15):
            begin, roads, end = some_parts(source, "ab", 3, 8)
            more = [(state + 3 * at, sign, goal + 3 * at, number) for at in range(many)
                    for state, sign, goal, number in roads]
            steps = steps_by("ab", begin * many, more, end * many)
            self.assertEqual(len(whole_views(steps)), len(views(steps_by("ab", begin, roads, end))))
            self.assertIs(is_seen_apart(steps), many == 1)
            wanted = tariff_of(Machine("ab", begin, roads, end))
            form = form_of("ab", steps)
            self.assertEqual(form.firsts, wanted.heads)
            for head, worth in zip(form.firsts, worths_of(form.steps)):
                self.assertEqual(told(worth), many * told(worth_of(begin, roads, end, head)))

    def test_views_tell_what_messages_tell(self):
        source = random.Random(74)
        for _ in range(60):
            size = source.randint(0, 4)
            begin, roads, end = some_parts(source, "ab", size, source.randint(0, 8), source.choice([1, 9]))
            steps = steps_by("ab", begin, roads, end)
            rows = [
                [told(worth_of([(int(at == state), 1) for at in range(size)], roads, end, message))
                 for state in range(size)]
                for message in messages_to("ab", size)
            ]
            taken = []
            for view in views(steps):
                taken.append(dense_row(view))
            self.assertTrue(all(sum_of(taken, row) is not None for row in rows))
            found = []
            for row in rows:
                if sum_of(found, row) is None:
                    found.append(row)
            self.assertEqual(len(found), len(taken))

    def test_first_told(self):
        steps = steps_by("ab", [ONE, NONE], [(0, "b", 1, ONE)], [NONE, ONE])
        self.assertEqual(first_worth_by("ab", steps), "b")
        self.assertIsNone(first_worth_by("ab", steps_by("ab", [ONE, NONE], [(0, "b", 1, NONE)], [NONE, ONE])))
        self.assertIsNone(first_worth_by("ab", steps_by("ab", [], [], [])))


if __name__ == "__main__":
    unittest.main()
