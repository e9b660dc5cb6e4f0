"""Readings: numbers, patterns, machines and tariffs, told by their texts."""

from textworths.errors import Unreadable, WorthError
from textworths.machines import Machine
from textworths.numbers import is_number
from textworths.tariffs import Tariff

DIGITS = "0123456789"
MOST_DIGITS = 9
OF_NUMBERS = "-/0123456789"

LEAVES = {".": "any", "0": "none", "1": "empty"}


def read_number(text):
    """Returns the number with a text."""
    pair = _number_of(text)
    if pair is None:
        raise Unreadable(text)
    return pair


def read_integer(text):
    """Returns the integer with a text."""
    if not _is_integer(text):
        raise Unreadable(text)
    return int(text)


def read_pattern(text):
    """Returns the pattern with a text."""
    # A list of what is still to be closed takes texts of any depth.
    waiting, at = [], 0
    while at < len(text):
        found, at = _begun(text, at, waiting)
        if found is not None:
            found, at = _ended(text, at, waiting, found)
            if found is not None:
                return found
    raise Unreadable(text)


def read_machine(text):
    """Returns the machine with a text."""
    parts = text.split(" ; ")
    if len(parts) != 4:
        raise Unreadable(text)
    signs, begin, roads, end = parts
    try:
        return Machine(signs, _numbers(begin), [_road(road) for road in _listed(roads, " , ")], _numbers(end))
    except WorthError:
        raise Unreadable(text)


def read_tariff(text):
    """Returns the tariff with a text."""
    parts = text.split(" | ")
    heads, table, worths = [], [], []
    try:
        for part in parts[1:]:
            head, worth, rows = _head(part)
            heads.append(head)
            worths.append(worth)
            table.append(rows)
        return Tariff(parts[0], heads, table, worths)
    except WorthError:
        raise Unreadable(text)


def _is_integer(text):
    """Tells whether a text is that of an integer."""
    digits = text.removeprefix("-")
    if not 1 <= len(digits) <= MOST_DIGITS or not all([digit in DIGITS for digit in digits]):
        return False
    return digits[0] != "0" or text == "0"


def _number_of(text):
    """Returns the number with a text, None if there is none."""
    above, bar, below = text.partition("/")
    if not _is_integer(above):
        return None
    if bar == "":
        return (int(above), 1)
    if not _is_integer(below):
        return None
    pair = (int(above), int(below))
    return pair if pair[1] > 1 and is_number(pair) else None


def _begun(text, at, waiting):
    """Returns (pattern, next place) of what begins at a place, None where a bracket is opened."""
    mark = text[at]
    if mark == "(":
        waiting.append(("(",))
        return None, at + 1
    if mark in OF_NUMBERS:
        return _begun_by_number(text, at, waiting)
    if mark in LEAVES:
        return (LEAVES[mark],), at + 1
    if not "a" <= mark <= "z":
        raise Unreadable(text)
    return ("sign", mark), at + 1


def _begun_by_number(text, at, waiting):
    """Returns what `_begun` does of a number: a weight, or `0` or `1` by themselves."""
    last = at
    while last < len(text) and text[last] in OF_NUMBERS:
        last += 1
    told = text[at:last]
    if text[last:last + 1] == "[":
        number = _number_of(told)
        if number is None:
            raise Unreadable(text)
        waiting.append(("[", number))
        return None, last + 1
    if told not in LEAVES:
        raise Unreadable(text)
    return (LEAVES[told],), last


def _ended(text, at, waiting, found):
    """Returns (pattern, next place) of all that ends with a pattern, None if another part is to come."""
    while at < len(text):
        mark = text[at]
        if mark == "*":
            found = ("many", found)
        elif waiting == []:
            raise Unreadable(text)
        elif waiting[-1][0] == "(":
            kind, at = _between(text, at)
            waiting[-1] = (kind, found)
            return None, at
        else:
            found = _closed(text, mark, waiting.pop(), found)
        at += 1
    if waiting != []:
        raise Unreadable(text)
    return found, at


def _between(text, at):
    """Returns (kind, next place) of what stands between two parts."""
    if text[at:at + 3] == " + ":
        return "or", at + 3
    if text[at] == " ":
        return "then", at + 1
    raise Unreadable(text)


def _closed(text, mark, opened, found):
    """Returns the pattern that ends with a bracket that is closed."""
    if opened[0] == "[" and mark == "]":
        return ("weigh", opened[1], found)
    if opened[0] != "[" and mark == ")":
        return (opened[0], opened[1], found)
    raise Unreadable(text)


def _listed(text, separator):
    """Returns the texts of a list, `-` for the empty one."""
    return [] if text == "-" else text.split(separator)


def _numbers(text):
    """Returns the numbers of a list."""
    return [read_number(part) for part in _listed(text, " ")]


def _road(text):
    """Returns the road with a text."""
    words = text.split(" ")
    if len(words) != 4:
        raise Unreadable(text)
    return (read_integer(words[0]), words[1], read_integer(words[2]), read_number(words[3]))


def _head(text):
    """Returns (head, worth, rows) of a head."""
    parts = text.split(" ; ")
    head, _, worth = parts[0].partition("=")
    if head == "":
        raise Unreadable(text)
    if head == "-":
        head = ""
    rows = [[read_number(word) for word in row.split(" ")] for row in parts[1:]]
    return head, read_number(worth), rows
