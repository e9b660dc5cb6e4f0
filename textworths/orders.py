"""Orders: what a text tells a desk to do."""

from textworths.errors import Unreadable
from textworths.readings import read_integer, read_machine, read_number, read_pattern

MOST_LETTERS = 8

# What stands behind the first word of each order.
SHAPES = {
    "pattern": ("name", "pattern"),
    "machine": ("name", "machine"),
    "plus": ("name", "name", "name"),
    "each": ("name", "name", "name"),
    "behind": ("name", "name", "name"),
    "again": ("name", "name"),
    "turned": ("name", "name"),
    "scaled": ("name", "name", "number"),
    "drop": ("name",),
    "send": ("name", "message"),
    "branch": ("name",),
    "switch": ("name",),
    "undo": (),
    "worth": ("name", "message"),
    "total": ("name", "length"),
    "sum": (),
    "apart": ("name", "name"),
    "form": ("name",),
    "forks": (),
    "names": (),
    "same": ("name",),
    "ledger": (),
}


def read_order(text):
    """Returns the list of the first word of an order and of the things that stand behind it."""
    kind, _, _ = text.partition(" ")
    if kind not in SHAPES:
        raise Unreadable(text)
    shape = SHAPES[kind]
    # The last thing may be a text with spaces of its own.
    words = text.split(" ", len(shape))
    if words[0] != kind or len(words) != len(shape) + 1:
        raise Unreadable(text)
    try:
        return [kind] + [_read(word, wanted) for word, wanted in zip(words[1:], shape)]
    except Unreadable:
        raise Unreadable(text)


def is_name(text):
    """Tells whether a text is a name: one to eight letters from a to z."""
    return len(text) <= MOST_LETTERS and _are_letters(text)


def _read(word, wanted):
    """Returns the thing of a kind that a word tells."""
    if wanted == "pattern":
        return read_pattern(word)
    if wanted == "machine":
        return read_machine(word)
    if wanted == "number":
        return read_number(word)
    if wanted == "length":
        return _read_length(word)
    if wanted == "message" and word == "-":
        return ""
    if not _are_letters(word) or wanted == "name" and not is_name(word):
        raise Unreadable(word)
    return word


def _read_length(word):
    """Returns the integer from 0 on that a word tells."""
    length = read_integer(word)
    if length < 0:
        raise Unreadable(word)
    return length


def _are_letters(text):
    """Tells whether a text is one or more letters from a to z."""
    return text != "" and all(["a" <= letter <= "z" for letter in text])
