import random
import unittest
from itertools import combinations

from cases import HALF, NONE, ONE, WRONG_NUMBERS, WRONG_SIGNS, Case, nothing, some_tariff
from plain import form_told, messages_to, pair_of, sum_of, told
from textworths.books import Book, ways
from textworths.closures import all_alike, just, lengths, places, plus, scaled
from textworths.errors import InvalidNote, InvalidNumber, InvalidSigns, UnlikeSigns
from textworths.questions import asked, fewest_messages, first_false, fitting, least_size, next_message, told_back
from textworths.sums import totals
from textworths.tariffs import Tariff


def answers_of(tariff, messages):
    return [(message, tariff(message)) for message in messages]


def mixed_up(source, rows):
    rows = list(rows)
    source.shuffle(rows)
    return rows


class Asked(Case):
    def test_asked(self):
        for signs in ("a", "ab", "xyz"):
            self.assertEqual(asked(signs, 0), [])
            for size in range(1, 4):
                self.assertEqual(asked(signs, size), messages_to(signs, 2 * size - 1))
        self.assertEqual(asked(size=1, signs="ab"), ["", "a", "b"])
        self.assertEqual(asked("z", 8), ["z" * length for length in range(16)])
        self.apart(asked("ab", 2), asked("ab", 2))

    def test_next_message(self):
        source = random.Random(1)
        for signs in ("a", "ab", "abc"):
            for size in range(4):
                wanted = asked(signs, size)
                answers = []
                for message in wanted:
                    self.assertEqual(next_message(signs, size, mixed_up(source, answers)), message)
                    answers.append((message, ONE))
                self.assertIsNone(next_message(signs, size, answers))
                self.assertIsNone(next_message(signs, size, answers + [(signs[0] * 9, HALF)]))
        self.assertIsNone(next_message("ab", 0, []))
        self.assertEqual(next_message(answers=[("b", ONE), ("", ONE)], size=1, signs="ab"), "a")
        self.assertEqual(next_message("ab", 1, [("bbb", ONE)]), "")


class ToldBack(Case):
    def test_tariffs(self):
        source = random.Random(2)
        for signs, sizes in (("a", range(9)), ("ab", range(4)), ("xyz", range(3))):
            for size in sizes:
                for most in range(size, 9 if signs == "a" else 4):
                    tariff, _ = some_tariff(source, signs, size)
                    answers = mixed_up(source, answers_of(tariff, asked(signs, most)))
                    held = list(answers)
                    found = told_back(signs, most, answers)
                    self.assertIs(type(found), Tariff)
                    self.assertEqual(form_told(found), form_told(tariff))
                    self.assertEqual(answers, held)
                    if len(tariff) > 0:
                        for less in range(len(tariff)):
                            kept = answers_of(tariff, asked(signs, less))
                            back = told_back(signs, less, kept)
                            self.assertTrue(back is None or len(back) <= less and back != tariff)

    def test_ordinary(self):
        self.assertEqual(told_back("a", 1, [("a", (2, 1)), ("", ONE)])("aaaa"), (16, 1))
        self.assertIsNone(told_back("a", 1, [("", NONE), ("a", ONE)]))
        self.assertEqual(told_back(answers=[("", NONE), ("a", NONE)], size=1, signs="a"), nothing("a"))
        self.assertEqual(told_back("ab", 0, []), nothing())
        self.assertEqual(told_back("ab", 2, answers_of(places("ab", "b"), asked("ab", 2))), places("ab", "b"))
        self.assertIsNone(told_back("ab", 1, answers_of(places("ab", "b"), asked("ab", 1))))
        self.assertIsNone(told_back("ab", 2, answers_of(just("ab", "ab"), asked("ab", 2))))
        self.assertEqual(told_back("abc", 3, answers_of(just("abc", "ab"), asked("abc", 3))), just("abc", "ab"))

    def test_one_number_off(self):
        source = random.Random(3)
        none = 0
        for _ in range(60):
            signs = source.choice(["a", "ab"])
            size = source.choice([1, 2, 3])
            tariff, _ = some_tariff(source, signs, size)
            answers = answers_of(tariff, asked(signs, size))
            at = source.randrange(len(answers))
            message, number = answers[at]
            answers[at] = (message, pair_of(told(number) + source.choice([1, -1, 5])))
            found = told_back(signs, size, answers)
            if found is None:
                none += 1
            else:
                self.assertLessEqual(len(found), size)
                self.assertEqual([found(message) for message, _ in answers], [number for _, number in answers])
        self.assertGreater(none, 10)

    def test_all_small_answers(self):
        """With one sign and answers 0, 1 and 2, whether a tariff of one or two heads gives them."""
        numbers = [NONE, ONE, (2, 1)]
        for one in numbers:
            for two in numbers:
                found = told_back("a", 1, [("", one), ("a", two)])
                self.assertEqual(found is None, one == NONE and two != NONE)
                for three in numbers:
                    for four in numbers:
                        answers = [("", one), ("a", two), ("aa", three), ("aaa", four)]
                        found = told_back("a", 2, answers)
                        a, b, c, d = (told(number) for _, number in answers)
                        if a * c != b * b:
                            self.assertEqual(len(found), 2)
                        elif found is None:
                            self.assertTrue(a == 0 and (b, c, d) != (0, 0, 0) or a * d != b * c)
                        if found is not None:
                            self.assertEqual([found(message) for message, _ in answers],
                                             [number for _, number in answers])

    def test_great_numbers(self):
        source = random.Random(4)
        tariff, _ = some_tariff(source, "ab", 3, 9)
        found = told_back("ab", 3, answers_of(tariff, asked("ab", 3)))
        self.assertEqual(found, tariff)
        # What the totals tell is told back as a tariff of lengths.
        sums = totals(places("ab", "ab"), 16)
        back = told_back("a", 8, [("a" * length, number) for length, number in enumerate(sums)])
        self.assertEqual([back("a" * length) for length in range(40)], totals(places("ab", "ab"), 40))
        book = ways(Book("xy", ["a", "ab"], "ab"))
        self.assertEqual(told_back("ab", 3, answers_of(book, asked("ab", 3))), book)


class LeastSize(Case):
    def test_least_size(self):
        source = random.Random(5)
        for signs, halves in (("a", range(9)), ("ab", range(3)), ("abc", range(3))):
            for half in halves:
                for size in (0, 1, 2, 3):
                    tariff, _ = some_tariff(source, signs, size)
                    answers = mixed_up(source, answers_of(tariff, messages_to(signs, 2 * half)))
                    found = least_size(signs, half, answers)
                    self.assertLessEqual(found, len(tariff))
                    worths = dict(answers)
                    free = []
                    for row in messages_to(signs, half):
                        line = [told(worths[row + column]) for column in messages_to(signs, half)]
                        if sum_of(free, line) is None:
                            free.append(line)
                    self.assertEqual(found, len(free))
                    more = answers + [(signs[0] * (2 * half + 1), ONE)]
                    self.assertEqual(least_size(signs, half, more), found)
                    if half >= size - 1:
                        self.assertEqual(found, len(tariff))

    def test_ordinary(self):
        self.assertEqual(least_size("a", 1, [("", NONE), ("a", ONE), ("aa", (2, 1))]), 2)
        self.assertEqual(least_size(answers=[("", NONE)], half=0, signs="ab"), 0)
        self.assertEqual(least_size("ab", 0, [("", HALF)]), 1)


class Given(Case):
    def test_first_false(self):
        self.assertEqual(first_false(lengths("a"), [("a", ONE), ("aa", (3, 1))]), ("aa", (3, 1)))
        self.assertIsNone(first_false(answers=[], tariff=lengths("a")))
        source = random.Random(6)
        for _ in range(30):
            tariff, _ = some_tariff(source, "ab", 2)
            answers = mixed_up(source, answers_of(tariff, messages_to("ab", 3)))
            self.assertIsNone(first_false(tariff, answers))
            off = sorted(source.sample(range(len(answers)), 2))
            for at in off:
                answers[at] = (answers[at][0], pair_of(told(answers[at][1]) + 1))
            self.assertEqual(first_false(tariff, answers), answers[off[0]])
        self.assertIsNone(first_false(nothing(), [("ab" * 20, NONE)]))
        self.assertEqual(first_false(nothing(), [("", NONE), ("a", ONE)]), ("a", ONE))

    def test_fitting(self):
        ones, long, a = all_alike("ab", ONE), lengths("ab"), places("ab", "a")
        tariffs = [long, ones, a, long, nothing()]
        self.assertEqual(fitting(tariffs, [("a", ONE)]), [0, 1, 2, 3])
        self.assertEqual(fitting(tariffs, [("a", ONE), ("b", ONE)]), [0, 1, 3])
        self.assertEqual(fitting(answers=[("", NONE)], tariffs=tariffs), [0, 2, 3, 4])
        self.assertEqual(fitting(tariffs, []), [0, 1, 2, 3, 4])
        self.assertEqual(fitting(tariffs, [("ab", (7, 2))]), [])
        self.apart(fitting(tariffs, []), fitting(tariffs, []))


class Fewest(Case):
    def plainly(self, tariffs, length):
        messages = messages_to(tariffs[0].signs, length)
        unlike = [(one, other) for one, other in combinations(tariffs, 2) if one != other]
        for many in range(4):
            for chosen in combinations(messages, many):
                if all(any(one(message) != other(message) for message in chosen) for one, other in unlike):
                    return list(chosen)
        return None

    def test_some(self):
        source = random.Random(7)
        seen = {}
        for _ in range(80):
            signs, length = source.choice([("a", 8), ("ab", 4), ("ab", 2), ("abc", 2)])
            ends = source.sample(messages_to(signs, 3), 3)
            base, _ = some_tariff(source, signs, 1)
            others = [plus(base, scaled(just(signs, end), source.choice([ONE, HALF]))) for end in ends]
            tariffs = mixed_up(source, [base] + others)[:source.randint(1, 4)]
            if source.random() < 0.3:
                tariffs[-1] = tariffs[0]
            found = fewest_messages(tariffs, length)
            self.assertEqual(found, self.plainly(tariffs, length))
            kind = None if found is None else len(found)
            seen[kind] = seen.get(kind, 0) + 1
        self.assertTrue(all(seen.get(kind, 0) > 1 for kind in (None, 0, 1, 2, 3)), seen)

    def test_ordinary(self):
        ones, long = all_alike("a", ONE), lengths("a")
        self.assertEqual(fewest_messages([long, ones, all_alike("a", (2, 1))], 2), [""])
        self.assertEqual(fewest_messages([long], 2), [])
        self.assertEqual(fewest_messages(length=0, tariffs=[long, long, long]), [])
        self.assertEqual(fewest_messages([long, ones], 0), [""])
        self.assertIsNone(fewest_messages([long, nothing("a")], 0))
        self.assertEqual(fewest_messages([long, nothing("a")], 1), ["a"])
        self.assertEqual(fewest_messages([nothing(), just("ab", "a"), just("ab", "b"), just("ab", "ab")], 2), ["a", "b", "ab"])
        self.assertEqual(fewest_messages([just("ab", "a"), just("ab", "b"), just("ab", "ab")], 2), ["a", "b"])
        self.assertIsNone(fewest_messages([nothing(), just("ab", "aaaaa")], 4))
        self.assertEqual(fewest_messages([nothing("z"), just("z", "z" * 8)], 8), ["z" * 8])
        self.apart(fewest_messages([long, ones], 2), fewest_messages([long, ones], 2))


class Errors(Case):
    BAD = [("c", ONE)]

    def test_signs_and_counts(self):
        for wrong in WRONG_SIGNS:
            self.raises(InvalidSigns, wrong, asked, wrong, -1)
            self.raises(InvalidSigns, wrong, next_message, wrong, -1, self.BAD)
            self.raises(InvalidSigns, wrong, told_back, wrong, -1, self.BAD)
            self.raises(InvalidSigns, wrong, least_size, wrong, -1, self.BAD)
        for wrong in (-1, -5):
            self.raises(InvalidNumber, wrong, asked, "ab", wrong)
            self.raises(InvalidNumber, wrong, next_message, "ab", wrong, self.BAD)
            self.raises(InvalidNumber, wrong, told_back, answers=self.BAD, size=wrong, signs="ab")
            self.raises(InvalidNumber, wrong, least_size, answers=self.BAD, half=wrong, signs="ab")
            self.raises(InvalidNumber, wrong, fewest_messages, [lengths("ab"), lengths("a")], wrong)

    def test_unlike_signs(self):
        tariffs = [lengths("ab"), lengths("ab"), lengths("abc"), lengths("a")]
        self.raises(UnlikeSigns, "abc", fewest_messages, tariffs, 1)
        self.raises(UnlikeSigns, "abc", fitting, tariffs, self.BAD)
        self.raises(UnlikeSigns, "b", fitting, [nothing("a"), nothing("b")], [("?", (0, 0))])

    def test_answers(self):
        right = [("", ONE), ("a", HALF)]
        deeds = [lambda answers: next_message("ab", 1, answers), lambda answers: told_back("ab", 1, answers),
                 lambda answers: least_size("ab", 0, answers), lambda answers: first_false(lengths("ab"), answers),
                 lambda answers: fitting([lengths("ab"), nothing()], answers)]
        wrong = [("c", ONE), ("abca", ONE), ("A", ONE), (" ", ONE), ("a", HALF), ("a", ONE), ("", NONE)]
        wrong += [("b", number) for number in WRONG_NUMBERS] + [("c", (0, 0)), ("a", (2, 4)), ("aaaaaaa", (2, 2))]
        for deed in deeds:
            for answer in wrong:
                answers = right + [answer, ("cc", (0, 0))]
                held = list(answers)
                self.raises(InvalidNote, answer, deed, answers)
                self.assertEqual(answers, held)
                self.raises(InvalidNote, answer, deed, right + [("b", NONE), ("ba", NONE), answer] if answer[0] != "b"
                            else right + [answer])
        self.raises(InvalidNote, ("b", ONE), fitting, [lengths("a")], [("b", ONE)])

    def test_missing(self):
        self.raises(InvalidNote, "", told_back, "ab", 1, [])
        self.raises(InvalidNote, "a", told_back, "ab", 1, [("b", ONE), ("", ONE)])
        self.raises(InvalidNote, "b", told_back, "ab", 1, [("a", ONE), ("", ONE)])
        answers = answers_of(lengths("ab"), asked("ab", 2))
        for at, (message, _) in enumerate(answers):
            self.raises(InvalidNote, message, told_back, "ab", 2, answers[:at] + answers[at + 1:])
        answers = answers_of(lengths("ab"), messages_to("ab", 4))
        for at, (message, _) in enumerate(answers):
            self.raises(InvalidNote, message, least_size, "ab", 2, answers[:at] + answers[at + 1:])
        self.raises(InvalidNote, "", least_size, answers=[], half=0, signs="ab")
        self.raises(InvalidNote, ("c", ONE), told_back, "ab", 1, [("c", ONE)])

    def test_more_answers_are_left_aside(self):
        more = [("abababab", (7, 3)), ("bbbbbb", NONE)]
        answers = answers_of(lengths("ab"), asked("ab", 1))
        self.assertIsNone(next_message("ab", 1, answers + more))
        self.assertEqual(next_message("ab", 1, more), "")
        self.assertEqual(least_size("ab", 0, more + answers), 0)
        self.assertEqual(fitting([lengths("ab")], answers + more), [])


if __name__ == "__main__":
    unittest.main()
