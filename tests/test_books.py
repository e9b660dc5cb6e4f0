import random
import unittest
from fractions import Fraction

from cases import ONE, WRONG_SIGNS, Case, some_tariff
from plain import messages_to, pair_of
from textworths.books import (
    Book, behind_book, delay, first_common, first_double, is_full, is_one_way, is_plain, measure, sure_beginning, ways,
)
from textworths.closures import all_alike, each, led, spelled
from textworths.errors import Endless, InvalidBook, InvalidSigns, UnknownSign, UnlikeSigns

LATE, TWOFOLD = Book("xyz", ["a", "ab", "bb"], "ab"), Book("xy", ["a", "aa"], "a")


def some_book(source, letters=None, most=4, longest=3):
    letters = letters or source.choice(["a", "ab", "ab", "abc"])
    many = source.randint(1, most)
    words = ["".join(source.choice(letters) for _ in range(source.randint(1, longest))) for _ in range(many)]
    return Book("uvwxyz"[:many], words, letters)


def texts_of(book, length):
    """The messages of each text to a length, in their order."""
    found = {"": [""]}
    waiting = [("", "")]
    while waiting:
        message, text = waiting.pop(0)
        for sign, word in zip(book.signs, book.words):
            if len(text + word) <= length:
                found.setdefault(text + word, []).append(message + sign)
                waiting.append((message + sign, text + word))
    return {text: sorted(messages, key=lambda one: (len(one), one)) for text, messages in found.items()}


def in_order(texts):
    return sorted(texts, key=lambda text: (len(text), text))


def delay_to(book, most):
    """The delay by the texts of messages that are at least so long, None if it is not less than `most`."""
    words = dict(zip(book.signs, book.words))
    longest = max(map(len, book.words)) + most
    # Texts of messages by their first signs, cut where they need not be longer.
    cuts = {sign: set() for sign in book.signs}
    for sign in book.signs:
        waiting = [words[sign]]
        seen = set(waiting)
        while waiting:
            text = waiting.pop()
            if len(text) >= longest:
                cuts[sign].add(text[:longest])
                continue
            for word in book.words:
                if text + word not in seen:
                    seen.add(text + word)
                    waiting.append(text + word)

    def parted(number):
        for sign in book.signs:
            for other in book.signs:
                if sign < other:
                    size = min(len(words[sign]), len(words[other])) + number
                    if {text[:size] for text in cuts[sign]} & {text[:size] for text in cuts[other]}:
                        return False
        return True

    return next((number for number in range(most) if parted(number)), None)


class Books(Case):
    def books(self, seed, many=60, **bounds):
        source = random.Random(seed)
        return [some_book(source, **bounds) for _ in range(many)]


class TheClass(Books):
    def test_properties(self):
        words = ["ab", "c"]
        book = Book("xy", words, "abc")
        self.assertEqual((book.signs, book.words, book.letters, len(book)), ("xy", ["ab", "c"], "abc", 2))
        self.assertEqual(Book(letters="abc", words=words, signs="xy"), book)
        words.append("b")
        self.apart(book.words, book.words)
        book.words.clear()
        self.assertEqual((book.words, len(book)), (["ab", "c"], 2))

    def test_equality(self):
        book = Book("xy", ["a", "ab"], "ab")
        self.assertTrue(book == Book("xy", ["a", "ab"], "ab"))
        self.assertFalse(book != Book("xy", ["a", "ab"], "ab"))
        for other in (Book("xz", ["a", "ab"], "ab"), Book("xy", ["ab", "a"], "ab"), Book("xy", ["a", "ab"], "abc"),
                      Book("x", ["a"], "ab"), ("xy", ["a", "ab"], "ab"), "xy", None, ["a", "ab"], 2, ways(book)):
            self.assertFalse(book == other)
            self.assertTrue(book != other)

    def test_written(self):
        self.assertEqual([LATE.written(""), LATE.written("xz"), LATE.written(message="zzy")], ["", "abb", "bbbbab"])
        self.assertEqual(LATE.written("xyz" * 16), "aabbb" * 16)
        for message, sign in (("a", "a"), ("xyaz", "a"), ("xX", "X"), (" ", " ")):
            self.raises(UnknownSign, sign, LATE.written, message)

    def test_messages_and_decoded(self):
        for book in self.books(1):
            found = texts_of(book, 6)
            for text in messages_to(book.letters, 6 if len(book.letters) < 3 else 4):
                wanted = found.get(text, [])
                if len(wanted) <= 400:
                    self.assertEqual(book.messages(text), wanted)
                self.assertEqual(book.decoded(text), wanted[0] if len(wanted) == 1 else None)
        self.assertEqual(TWOFOLD.messages(text="aaa"), ["xy", "yx", "xxx"])
        self.assertEqual(LATE.messages("b"), [])
        self.assertEqual(LATE.messages(""), [""])
        self.apart(TWOFOLD.messages("aaaa"), TWOFOLD.messages("aaaa"))
        self.assertEqual(len(TWOFOLD.messages("a" * 12)), 233)

    def test_far_decoded(self):
        self.assertEqual(LATE.decoded("a" + "b" * 39), "y" + "z" * 19)
        self.assertEqual(LATE.decoded("a" + "b" * 38), "x" + "z" * 19)
        self.assertEqual(LATE.decoded(text=""), "")
        self.assertIsNone(LATE.decoded("b" * 39))
        self.assertIsNone(TWOFOLD.decoded("a" * 40))
        self.assertEqual(TWOFOLD.decoded("a"), "x")
        self.assertIsNone(Book("xy", ["a", "a"], "a").decoded("a" * 40))
        six = Book("uvwxyz", ["a", "b", "aa", "bb", "ab", "ba"], "ab")
        self.assertIsNone(six.decoded("ab" * 20))
        self.assertEqual(six.messages("ab"), ["y", "uv"])

    def test_letters_of_texts(self):
        for text, sign in (("c", "c"), ("abxc", "x"), ("A", "A"), ("a b", " ")):
            self.raises(UnknownSign, sign, LATE.messages, text)
            self.raises(UnknownSign, sign, LATE.decoded, text)

    def test_errors(self):
        for wrong in WRONG_SIGNS:
            self.raises(InvalidSigns, wrong, Book, wrong, ["", "?"], "ba")
            self.raises(InvalidSigns, wrong, Book, "ab", ["", "?", "a"], wrong)
        for words in ([], ["a"], ["", "?", "a"], ["a", "b", "a"]):
            error = self.raises(InvalidBook, words, Book, "xy", words, "ab")
            self.assertIsNot(error.value, words)
        for words in (["", "a"], ["?", ""], ["", ""]):
            error = self.raises(Endless, words, Book, "xy", words, "ab")
            self.assertIsNot(error.value, words)
        self.raises(UnknownSign, "c", Book, "xy", ["ac", "bd"], "ab")
        self.raises(UnknownSign, "B", Book, letters="ab", words=["ab", "aBc"], signs="xy")

    def test_nothing_changes(self):
        words = ["a", "ab"]
        book = Book("xy", words, "ab")
        self.assertRaises(UnknownSign, book.messages, "c")
        book.messages("aab").clear()
        self.assertEqual(book.messages("aab"), ["xy"])
        self.assertEqual((words, book.words), (["a", "ab"], ["a", "ab"]))


class Ways(Books):
    def test_ways(self):
        for book in self.books(2, 40):
            found = texts_of(book, 5)
            tariff = ways(book)
            self.assertEqual(tariff.signs, book.letters)
            for text in messages_to(book.letters, 5):
                self.assertEqual(tariff(text), (len(found.get(text, [])), 1))
            self.assertIs(each(tariff, tariff) == tariff, is_one_way(book))
        self.assertEqual(ways(book=TWOFOLD)("aaa"), (3, 1))

    def test_doubles(self):
        seen = [0, 0]
        for book in self.books(3, 150):
            found = texts_of(book, 9 if len(book.letters) < 3 else 6)
            wanted = next(((text, found[text][0], found[text][1]) for text in in_order(found)
                           if len(found[text]) > 1), None)
            double = first_double(book)
            if wanted is None and double is not None:
                self.assertGreater(len(double[0]), 6)
                self.assertEqual(book.messages(double[0])[:2], list(double[1:]))
            else:
                self.assertEqual(double, wanted)
            self.assertIs(is_one_way(book), double is None)
            seen[double is None] += 1
        self.assertGreater(min(seen), 30)

    def test_some_doubles(self):
        self.assertEqual(first_double(book=TWOFOLD), ("aa", "y", "xx"))
        self.assertEqual(first_double(Book("xy", ["ab", "ab"], "ab")), ("ab", "x", "y"))
        self.assertEqual(first_double(Book("xyz", ["b", "a", "a"], "ab")), ("a", "y", "z"))
        self.assertEqual(first_double(Book("xyz", ["a", "ab", "ba"], "ab")), ("aba", "xz", "yx"))
        self.assertEqual(first_double(Book("wxyz", ["aaa", "aaaaa", "b", "bb"], "ab")), ("bb", "z", "yy"))
        self.assertEqual(first_double(Book("xy", ["aaa", "aaaaa"], "a")), ("a" * 8, "xy", "yx"))
        self.assertEqual(first_double(Book("wxyz", ["aaaab", "aaaaa", "baaaa", "a"], "ab"))[0], "aaaaa")
        self.assertIsNone(first_double(LATE))
        self.assertIs(is_one_way(book=LATE), True)

    def test_late_doubles(self):
        source = random.Random(4)
        books = [some_book(source, "ab", 4, 5) for _ in range(400)]
        late = [book for book in books if not is_one_way(book) and len(first_double(book)[0]) > 6]
        self.assertGreater(len(late), 2)
        for words in (["bbab", "abaa", "babba", "ba"], ["babba", "aaaab", "abbaa", "a"], ["abab", "bab", "aba"]):
            late.append(Book("uvwx"[:len(words)], words, "ab"))
        for book in late:
            double = first_double(book)
            found = texts_of(book, len(double[0]))
            firsts = [text for text in in_order(found) if len(found[text]) > 1]
            self.assertEqual(double, (firsts[0], *found[firsts[0]][:2]))

    def test_six_words_and_long_ones(self):
        six = Book("uvwxyz", ["aaaaa", "aaaab", "aaabb", "aabbb", "abbbb", "bbbbb"], "ab")
        self.assertIs(is_one_way(six), True)
        self.assertIs(is_plain(six), True)
        self.assertEqual(measure(six), (3, 16))
        self.assertIs(is_one_way(Book("uvwxyz", ["a", "ab", "abb", "abbb", "abbbb", "bbbbb"], "ab")), True)
        self.assertIs(is_one_way(Book("uvwxyz", ["a", "ab", "abb", "abbb", "bbba", "bbbbb"], "ab")), False)


class Kinds(Books):
    def test_plain(self):
        for book in self.books(5, 80):
            wanted = not any(one.startswith(other) for at, one in enumerate(book.words)
                             for at_2, other in enumerate(book.words) if at != at_2)
            self.assertIs(is_plain(book), wanted)
            self.assertIs(delay(book) == 0, wanted)
        self.assertIs(is_plain(book=Book("xy", ["a", "a"], "ab")), False)
        self.assertIs(is_plain(Book("x", ["a"], "ab")), True)
        self.assertIs(is_plain(Book("xy", ["ba", "b"], "ab")), False)

    def test_delay(self):
        seen = {}
        for book in self.books(6, 150):
            found = delay(book)
            seen[found] = seen.get(found, 0) + 1
            most = 7 if len(book.letters) < 3 else 4
            if found is None or found < most:
                self.assertEqual(found, delay_to(book, most), (book.words, found))
        self.assertTrue(all(seen.get(number, 0) > 2 for number in (None, 0, 1, 2)), seen)

    def test_some_delays(self):
        for words, wanted in ((["a"], 0), (["ab", "ab"], None), (["a", "ab"], 1), (["a", "b"], 0), (["a", "abb"], 1),
                              (["a", "ab", "bb"], None), (["a", "aa"], None), (["ab", "abb", "ba"], None),
                              (["a", "aab"], 2), (["ab", "abab"], None), (["b", "ba", "aaab"], 4),
                              (["a", "abbb", "bba"], 3)):
            book = Book("xyz"[:len(words)], words, "ab")
            if wanted is not None:
                self.assertEqual(delay_to(book, 6), wanted, words)
            self.assertEqual(delay(book=book), wanted, words)
        self.assertEqual(delay(Book("x", ["aaaaa"], "a")), 0)

    def test_measure_and_full(self):
        for book in self.books(7, 80):
            wanted = sum((Fraction(1, len(book.letters) ** len(word)) for word in book.words), Fraction(0))
            self.assertEqual(measure(book), pair_of(wanted))
            if is_one_way(book):
                self.assertLessEqual(wanted, 1)
            self.assertIs(is_full(book), is_one_way(book) and wanted == 1)
        self.assertEqual(measure(book=LATE), ONE)
        self.assertEqual(measure(Book("x", ["a" * 25], "abc")), (1, 3 ** 25))
        self.assertIs(is_full(book=LATE), True)
        self.assertIs(is_full(TWOFOLD), False)
        self.assertIs(is_full(Book("xy", ["a", "a"], "ab")), False)
        self.assertIs(is_full(Book("x", ["aaa"], "a")), True)

    def test_full_by_one_word_more(self):
        words = messages_to("ab", 4)[1:]
        for book in self.books(8, 60, letters="ab", most=3):
            if is_one_way(book):
                signs = "uvwx"[:len(book) + 1]
                more = [word for word in words if is_one_way(Book(signs, book.words + [word], "ab"))]
                if is_full(book):
                    self.assertEqual(more, [])
                elif max(map(len, book.words)) < 3:
                    self.assertNotEqual(more, [], book.words)


class Beginnings(Books):
    def test_sure_beginning(self):
        for book in self.books(9, 120):
            if not is_one_way(book):
                error = self.raises(InvalidBook, book.words, sure_beginning, book, "")
                self.assertIsNot(error.value, book.words)
                continue
            size = 5 if len(book.letters) < 3 else 3
            found = texts_of(book, size + 5)
            for text in messages_to(book.letters, size):
                # Longer messages begin with those that are just long enough.
                behind_it = [messages[0] for longer, messages in found.items() if longer.startswith(text)]
                wanted = None
                if behind_it:
                    wanted = min(behind_it)
                    while not all(message.startswith(wanted) for message in behind_it):
                        wanted = wanted[:-1]
                self.assertEqual(sure_beginning(book, text), wanted, (book.words, text))

    def test_some_beginnings(self):
        self.assertEqual(sure_beginning(LATE, ""), "")
        self.assertEqual(sure_beginning(LATE, "ab"), "")
        self.assertEqual(sure_beginning(text="aa", book=LATE), "x")
        self.assertEqual(sure_beginning(LATE, "aabba"), "xxz")
        self.assertIsNone(sure_beginning(LATE, "ba"))
        self.assertEqual(sure_beginning(LATE, "b"), "z")
        only = Book("x", ["ab"], "ab")
        self.assertEqual([sure_beginning(only, text) for text in ("", "a", "ab", "aba", "b")], ["", "x", "x", "xx", None])
        self.assertEqual(sure_beginning(LATE, "a" * 12), "x" * 11)
        self.assertEqual(sure_beginning(Book("xy", ["aab", "b"], "ab"), "baab"), "yx")

    def test_first_common(self):
        seen = [0, 0]
        source = random.Random(10)
        for _ in range(150):
            letters = source.choice(["a", "ab", "ab", "abc"])
            one, other = some_book(source, letters, 3), some_book(source, letters, 3)
            size = 10 if len(letters) < 3 else 7
            both = set(texts_of(one, size)) & set(texts_of(other, size)) - {""}
            found = first_common(one, other)
            if both:
                self.assertEqual(found, in_order(both)[0])
            else:
                self.assertTrue(found is None or len(found) > size)
            self.assertEqual(first_common(other=one, one=other), found)
            seen[found is None] += 1
        self.assertGreater(min(seen), 20)
        self.assertEqual(first_common(Book("x", ["aab"], "ab"), LATE), "aab")
        self.assertEqual(first_common(Book("x", ["aaaa"], "a"), Book("y", ["aaaaa"], "a")), "a" * 20)
        self.assertIsNone(first_common(Book("x", ["ab"], "ab"), Book("x", ["ba"], "ab")))
        self.assertEqual(first_common(LATE, LATE), "a")

    def test_behind_book(self):
        source = random.Random(11)
        for _ in range(40):
            other = some_book(source)
            many = source.randint(1, 4)
            words = ["".join(source.choice(other.signs) for _ in range(source.randint(1, 5))) for _ in range(many)]
            one = Book("abcd"[:many], words, other.signs)
            found = behind_book(one, other)
            self.assertEqual(found, Book(one.signs, [other.written(word) for word in words], other.letters))
            for message in messages_to(one.signs, 2):
                self.assertEqual(found.written(message), other.written(one.written(message)))
            if is_one_way(one) and is_one_way(other):
                self.assertIs(is_one_way(found), True)
        self.assertEqual(behind_book(other=LATE, one=Book("u", ["xz"], "xyz")).words, ["abb"])
        five = Book("xy", ["aaaaa", "aaaab"], "ab")
        long = behind_book(Book("uv", ["xxxxx", "xyxyy"], "xy"), five)
        self.assertEqual(long.words[0], "a" * 25)
        self.assertEqual(long.decoded(long.written("u")), "u")

    def test_errors(self):
        for one, other in ((LATE, TWOFOLD), (TWOFOLD, Book("x", ["a"], "abc"))):
            self.raises(UnlikeSigns, other.letters, first_common, one, other)
        self.raises(UnlikeSigns, "ab", behind_book, LATE, LATE)
        self.raises(UnlikeSigns, "xy", behind_book, Book("a", ["x"], "xy"), LATE)
        for book in (LATE, TWOFOLD):
            for text, sign in (("x", "x"), ("aAb", "A")):
                self.raises(UnknownSign, sign, sure_beginning, book, text)


class Guarantees(Books):
    def test_led_takes_spelled_back(self):
        source = random.Random(12)
        held = 0
        for book in self.books(13, 40):
            tariff, worth = some_tariff(source, book.signs, 2) if len(book.signs) < 4 else (None, None)
            if tariff is None:
                continue
            there = spelled(tariff, book.letters, book.words)
            back = led(there, book.signs, book.words)
            if is_one_way(book):
                held += 1
                self.assertEqual(back, tariff)
                other, _ = some_tariff(source, book.letters, 2)
                again = spelled(led(other, book.signs, book.words), book.letters, book.words)
                for text in messages_to(book.letters, 4):
                    self.assertEqual(again(text), other(text) if book.messages(text) else (0, 1))
        self.assertGreater(held, 10)
        self.assertEqual(spelled(all_alike("xyz", ONE), "ab", LATE.words), ways(LATE))


if __name__ == "__main__":
    unittest.main()
