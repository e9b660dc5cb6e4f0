"""Books: a word for each of some signs, and what messages their texts can have."""

from textworths.closures import all_alike, spelled
from textworths.errors import Endless, InvalidBook, UnlikeSigns
from textworths.numbers import added, power
from textworths.overhangs import first_shared_text, longest_alike, overhangs_of_pairs
from textworths.signs import check_message, check_signs

ONE = (1, 1)


class Book:
    """A code book, which never changes."""

    def __init__(self, signs, words, letters):
        check_signs(signs)
        check_signs(letters)
        if len(words) != len(signs):
            raise InvalidBook(list(words))
        if "" in words:
            raise Endless(list(words))
        for word in words:
            check_message(letters, word)
        self._signs = signs
        self._words = list(words)
        self._letters = letters
        self._word_of = {sign: word for sign, word in zip(signs, words)}

    @property
    def signs(self):
        """The signs, as passed."""
        return self._signs

    @property
    def words(self):
        """The words, one for each sign, in a new list."""
        return list(self._words)

    @property
    def letters(self):
        """The letters, as passed."""
        return self._letters

    def written(self, message):
        """Returns the text of a message, each sign exchanged for its word."""
        check_message(self._signs, message)
        return "".join([self._word_of[sign] for sign in message])

    def messages(self, text):
        """Returns the messages with a text, in their order."""
        check_message(self._letters, text)
        counts = self._counts(text)
        begun = {0: [""]}
        for at in range(len(text)):
            for sign, behind in self._nexts(text, at, counts):
                longer = [message + sign for message in begun.get(at, [])]
                begun[behind] = begun.get(behind, []) + longer
        return sorted(begun.get(len(text), []), key=lambda message: (len(message), message))

    def decoded(self, text):
        """Returns the only message with a text, None if there is none or more than one."""
        check_message(self._letters, text)
        counts = self._counts(text)
        if counts[0] != 1:
            return None
        message, at = "", 0
        while at < len(text):
            sign, at = self._nexts(text, at, counts)[0]
            message += sign
        return message

    def __len__(self):
        return len(self._words)

    def __eq__(self, other):
        return (isinstance(other, Book) and self._signs == other._signs
                and self._words == other._words and self._letters == other._letters)

    def _counts(self, text):
        """Returns how many messages the text has from each place on."""
        counts = [0] * len(text) + [1]
        for at in reversed(range(len(text))):
            counts[at] = sum([counts[at + len(word)] for word in self._words if text.startswith(word, at)])
        return counts

    def _nexts(self, text, at, counts):
        """Returns (sign, next place) of the words at a place from behind which the text can end."""
        return [(sign, at + len(word)) for sign, word in zip(self._signs, self._words)
                if text.startswith(word, at) and counts[at + len(word)] > 0]


def ways(book):
    """Returns the tariff over the letters that gives a text the number of its messages."""
    return spelled(all_alike(book.signs, ONE), book.letters, book.words)


def is_one_way(book):
    """Tells whether no text has two messages or more."""
    return _first_double_text(book) is None


def first_double(book):
    """Returns (text, one, other): the first text with two messages, None if there is none."""
    text = _first_double_text(book)
    if text is None:
        return None
    # No two messages of it begin alike, or a shorter text would have two: so they are few.
    found = book.messages(text)
    return text, found[0], found[1]


def is_plain(book):
    """Tells whether no word begins with the word of another sign."""
    return overhangs_of_pairs(book.words) == []


def delay(book):
    """Returns how many letters behind a word tell its sign at the latest, None if no number is enough."""
    words = book.words
    least = 0
    for over, _ in overhangs_of_pairs(words):
        longest = longest_alike(words, over)
        if longest is None:
            return None
        least = max(least, longest + 1)
    return least


def measure(book):
    """Returns the sum, over the words, of 1 by the number of texts as long as the word."""
    found = (0, 1)
    for word in book.words:
        found = added(found, power((1, len(book.letters)), len(word)))
    return found


def is_full(book):
    """Tells whether a book is one way and none with a sign more and these words is."""
    return measure(book) == ONE and is_one_way(book)


def sure_beginning(book, text):
    """Returns the longest message that begins each one whose text begins with a text, None if none does."""
    check_message(book.letters, text)
    if not is_one_way(book):
        raise InvalidBook(book.words)
    covers = _covers(book, text)
    return None if covers == [] else _common_beginning(covers)


def first_common(one, other):
    """Returns the first text, not the empty one, that has messages by two books, None if there is none."""
    if one.letters != other.letters:
        raise UnlikeSigns(other.letters)
    words = one.words
    return first_shared_text(words, other.words, [(word, word) for word in words])


def behind_book(one, other):
    """Returns the book whose words are those of the one, written by the other one."""
    if one.letters != other.signs:
        raise UnlikeSigns(one.letters)
    return Book(one.signs, [other.written(word) for word in one.words], other.letters)


def _first_double_text(book):
    """Returns the first text with two messages, None if there is none."""
    words = book.words
    # The first signs of its messages are unlike, or a shorter text would have two.
    return first_shared_text(words, words, overhangs_of_pairs(words))


def _covers(book, text):
    """Returns the messages whose texts begin with a text, but not those of their beginnings."""
    if text == "":
        return [""]
    found = []
    for at in range(len(text)):
        message = book.decoded(text[:at])
        if message is not None:
            left = text[at:]
            found.extend([message + sign for sign, word in zip(book.signs, book.words) if word.startswith(left)])
    return found


def _common_beginning(messages):
    """Returns the longest message that begins each one of a list."""
    first, last = min(messages), max(messages)
    size = 0
    while size < len(first) and first[:size + 1] == last[:size + 1]:
        size += 1
    return first[:size]
