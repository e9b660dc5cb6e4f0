"""Closures: tariffs that are made of other ones, of signs and of messages."""

from textworths.errors import Endless, InvalidBook, InvalidNumber, InvalidSigns
from textworths.joins import beside, crossed, kept_to, multiplied, pairs, shifted
from textworths.numbers import check_number, product, quotient
from textworths.signs import check_message, check_signs
from textworths.tariffs import check_like_signs, parts_of, steps_of, tariff_by

ONE = (1, 1)
NONE = (0, 1)


def plus(one, other):
    """Returns the tariff that gives the sum of the worths."""
    check_like_signs([one, other])
    return tariff_by(one.signs, beside(parts_of(one), parts_of(other)))


def scaled(one, number):
    """Returns the tariff that gives a number times the worth."""
    check_number(number)
    return tariff_by(one.signs, multiplied(parts_of(one), number))


def each(one, other):
    """Returns the tariff that gives the product of the worths."""
    check_like_signs([one, other])
    return tariff_by(one.signs, crossed(parts_of(one), parts_of(other)))


def behind(one, other):
    """Returns the tariff that adds up, over all cuts in two parts, the products of their worths."""
    check_like_signs([one, other])
    begin, roads, end = parts_of(one)
    begin_2, roads_2, end_2 = parts_of(other)
    size = len(begin)
    # What ends in the one begins in the other one: with the sign that ends it, or at once.
    bridges = [(state, sign, size + at, product(product(entry, end[goal]), first))
               for state, sign, goal, entry in roads for at, first in enumerate(begin_2)
               if end[goal] != NONE and first != NONE]
    entered = [product(one(""), first) for first in begin_2]
    return tariff_by(one.signs, (begin + entered, roads + bridges + shifted(roads_2, size), [NONE] * size + end_2))


def again(one):
    """Returns the tariff that adds up, over all cuts in parts, the products of their worths."""
    if one("") != NONE:
        raise Endless(one)
    begin, roads, end = parts_of(one)
    # One state more stands between the parts: there a message begins, and ends.
    gate = len(begin)
    starts = [(gate, sign, goal, product(begin[state], entry)) for state, sign, goal, entry in roads]
    inner = roads + [road for road in starts if road[3] != NONE]
    closing = [(state, sign, gate, product(entry, end[goal])) for state, sign, goal, entry in inner]
    return tariff_by(one.signs, ([NONE] * gate + [ONE], inner + closing, [NONE] * gate + [ONE]))


def undone(one, other):
    """Returns the tariff that, put ahead of the other one, makes the one."""
    check_like_signs([one, other])
    first = other("")
    if first == NONE:
        raise Endless(other)
    begin, roads, end = parts_of(one)
    begin_2, roads_2, end_2 = parts_of(other)
    size = len(begin)
    # The worth is what the one gives, less all that shorter beginnings and a part of the
    # other one make up already, by the worth that the other one gives to the empty message.
    ends = [quotient(entry, first) for entry in end + multiplied(([], [], end_2), (-1, 1))[2]]
    entering = [(sign, size + goal, product(begin_2[state], entry)) for state, sign, goal, entry in roads_2]
    bridges = [(state, sign, goal, product(last, entry)) for state, last in enumerate(ends)
               for sign, goal, entry in entering if last != NONE and entry != NONE]
    return tariff_by(one.signs, (begin + [NONE] * len(begin_2), roads + shifted(roads_2, size) + bridges, ends))


def shuffled(one, other):
    """Returns the tariff that adds up, over all choices of places, the products of the worths."""
    check_like_signs([one, other])
    begin, roads, end = parts_of(one)
    begin_2, roads_2, end_2 = parts_of(other)
    size, size_2 = len(begin), len(begin_2)
    moves = [(state * size_2 + at, sign, goal * size_2 + at, entry)
             for state, sign, goal, entry in roads for at in range(size_2)]
    moves_2 = [(at * size_2 + state, sign, at * size_2 + goal, entry)
               for state, sign, goal, entry in roads_2 for at in range(size)]
    return tariff_by(one.signs, (pairs(begin, begin_2), moves + moves_2, pairs(end, end_2)))


def within(one):
    """Returns the tariff that adds up the worths of all parts of a message."""
    ones = all_alike(one.signs, ONE)
    return behind(behind(ones, one), ones)


def turned(one):
    """Returns the tariff that gives the worth of the message read from its end."""
    begin, roads, end = parts_of(one)
    return tariff_by(one.signs, (end, [(goal, sign, state, entry) for state, sign, goal, entry in roads], begin))


def rest(one, message):
    """Returns the tariff that gives each message the worth of it behind this one."""
    check_message(one.signs, message)
    _, roads, end = parts_of(one)
    return tariff_by(one.signs, (steps_of(one).numbers_behind(message), roads, end))


def before(one, message):
    """Returns the tariff that gives each message the worth of it ahead of this one."""
    check_message(one.signs, message)
    begin, roads, _ = parts_of(one)
    steps = steps_of(one)
    return tariff_by(one.signs, (begin, roads, [steps.worth_from(state, message) for state in range(len(one))]))


def led(one, signs, words):
    """Returns the tariff over signs that gives the worth with a word in place of each sign."""
    check_signs(signs)
    _check_words(one.signs, words, len(signs))
    begin, _, end = parts_of(one)
    steps = steps_of(one)
    roads = [(state, sign, goal, entry) for sign, word in zip(signs, words) for state in range(len(one))
             for goal, entry in enumerate(steps.numbers_from(state, word)) if entry != NONE]
    return tariff_by(signs, (begin, roads, end))


def spelled(one, signs, words):
    """Returns the tariff over signs that adds up the worths of the messages of which this is the text."""
    check_signs(signs)
    _check_words(signs, words, len(one.signs))
    if "" in words:
        raise Endless(list(words))
    begin, roads, end = parts_of(one)
    size = len(begin)
    # For each beginning of a word there are states of their own, which wait for its end.
    nodes = {"": 0}
    for word in words:
        for cut in range(1, len(word)):
            nodes.setdefault(word[:cut], len(nodes) * size)
    moves = [(nodes[begun[:-1]] + state, begun[-1], first + state, ONE)
             for begun, first in nodes.items() if begun != "" for state in range(size)]
    word_of = {sign: word for sign, word in zip(one.signs, words)}
    closing = [(nodes[word_of[sign][:-1]] + state, word_of[sign][-1], goal, entry)
               for state, sign, goal, entry in roads]
    waiting = [NONE] * (size * len(nodes) - size)
    return tariff_by(signs, (begin + waiting, moves + closing, end + waiting))


def only(one, signs):
    """Returns the tariff that gives the worths of the messages of some signs, 0 to all others."""
    check_signs(signs)
    for sign in signs:
        if sign not in one.signs:
            raise InvalidSigns(signs)
    return tariff_by(one.signs, kept_to(parts_of(one), signs))


def all_alike(signs, number):
    """Returns the tariff that gives a number to each message."""
    check_number(number)
    check_signs(signs)
    return tariff_by(signs, ([number], _round(signs, 0), [ONE]))


def just(signs, message):
    """Returns the tariff that gives 1 to a message, 0 to all others."""
    check_signs(signs)
    check_message(signs, message)
    others = [NONE] * len(message)
    return tariff_by(signs, ([ONE] + others, _line(message), others + [ONE]))


def lengths(signs):
    """Returns the tariff that gives the length."""
    check_signs(signs)
    steps = [(0, sign, 1, ONE) for sign in signs]
    return tariff_by(signs, ([ONE, NONE], _round(signs, 0) + steps + _round(signs, 1), [NONE, ONE]))


def places(signs, part):
    """Returns the tariff that gives the number of places at which a part stands."""
    check_signs(signs)
    check_message(signs, part)
    if part == "":
        raise Endless(part)
    last = len(part)
    roads = _round(signs, 0) + _line(part) + _round(signs, last)
    return tariff_by(signs, ([ONE] + [NONE] * last, roads, [NONE] * last + [ONE]))


def powers(one, times):
    """Returns the tariff of so many times one, put behind each other."""
    if times < 0:
        raise InvalidNumber(times)
    made = just(one.signs, "")
    doubled = one
    while times > 0:
        if times & 1 == 1:
            made = behind(made, doubled)
        times = times >> 1
        if times > 0:
            doubled = behind(doubled, doubled)
    return made


def _check_words(signs, words, many):
    """Raises an error if words have other signs, or are not so many."""
    for word in words:
        check_message(signs, word)
    if len(words) != many:
        raise InvalidBook(list(words))


def _round(signs, state):
    """Returns the roads of all signs from a state to itself."""
    return [(state, sign, state, ONE) for sign in signs]


def _line(message):
    """Returns the roads of a message from state 0 on, each to the next state."""
    return [(at, sign, at + 1, ONE) for at, sign in enumerate(message)]
