"""Closures: tariffs that are made of other ones, of signs and of messages."""

from textworths.errors import Endless, InvalidBook, InvalidNumber, InvalidSigns
from textworths.forms import Form, form_of_nothing, form_of_reached, form_of_seen
from textworths.joins import (
    backwards, beside, by_words, crossed, following, kept_to, multiplied, repeated, shuffling, spelling, undoing,
)
from textworths.numbers import check_number
from textworths.signs import check_message, check_signs
from textworths.steps import Steps, steps_by
from textworths.tariffs import check_like_signs, tariff_by, tariff_by_form

ONE = (1, 1)
NONE = (0, 1)


def plus(one, other):
    """Returns the tariff that gives the sum of the worths."""
    check_like_signs([one, other])
    return tariff_by(one.signs, beside(one.steps, other.steps))


def scaled(one, number):
    """Returns the tariff that gives a number times the worth."""
    check_number(number)
    if number == NONE:
        return tariff_by_form(one.signs, form_of_nothing(one.signs))
    return tariff_by_form(one.signs, Form(one.heads, multiplied(one.steps, number)))


def each(one, other):
    """Returns the tariff that gives the product of the worths."""
    check_like_signs([one, other])
    return tariff_by(one.signs, crossed(one.steps, other.steps))


def behind(one, other):
    """Returns the tariff that adds up, over all cuts in two parts, the products of their worths."""
    check_like_signs([one, other])
    return tariff_by(one.signs, following(one.steps, other.steps))


def again(one):
    """Returns the tariff that adds up, over all cuts in parts, the products of their worths."""
    if one("") != NONE:
        raise Endless(one)
    return tariff_by(one.signs, repeated(one.steps))


def undone(one, other):
    """Returns the tariff that, put ahead of the other one, makes the one."""
    check_like_signs([one, other])
    if other("") == NONE:
        raise Endless(other)
    return tariff_by(one.signs, undoing(one.steps, other.steps))


def shuffled(one, other):
    """Returns the tariff that adds up, over all choices of places, the products of the worths."""
    check_like_signs([one, other])
    return tariff_by(one.signs, shuffling(one.steps, other.steps))


def within(one):
    """Returns the tariff that adds up the worths of all parts of a message."""
    ones = all_alike(one.signs, ONE).steps
    return tariff_by(one.signs, following(following(ones, one.steps), ones))


def turned(one):
    """Returns the tariff that gives the worth of the message read from its end."""
    # What messages reach from the begin tells the states apart if they are read from the end.
    return tariff_by_form(one.signs, form_of_seen(one.signs, backwards(one.steps)))


def rest(one, message):
    """Returns the tariff that gives each message the worth of it behind this one."""
    check_message(one.signs, message)
    steps = one.steps
    below, row = steps.first
    return tariff_by_form(one.signs, form_of_seen(
        one.signs, Steps(steps.moved(below, row, message), steps.last, steps.of_sign)))


def before(one, message):
    """Returns the tariff that gives each message the worth of it ahead of this one."""
    check_message(one.signs, message)
    steps = one.steps
    ends = Steps(steps.first, steps.ends_ahead_of(message), steps.of_sign)
    return tariff_by_form(one.signs, form_of_reached(one.signs, Form(one.heads, ends)))


def led(one, signs, words):
    """Returns the tariff over signs that gives the worth with a word in place of each sign."""
    check_signs(signs)
    _check_words(one.signs, words, len(signs))
    return tariff_by(signs, by_words(one.steps, signs, words))


def spelled(one, signs, words):
    """Returns the tariff over signs that adds up the worths of the messages of which this is the text."""
    check_signs(signs)
    _check_words(signs, words, len(one.signs))
    if "" in words:
        raise Endless(list(words))
    return tariff_by(signs, spelling(one.steps, signs, words))


def only(one, signs):
    """Returns the tariff that gives the worths of the messages of some signs, 0 to all others."""
    check_signs(signs)
    for sign in signs:
        if sign not in one.signs:
            raise InvalidSigns(signs)
    return tariff_by(one.signs, kept_to(one.steps, signs))


def all_alike(signs, number):
    """Returns the tariff that gives a number to each message."""
    check_number(number)
    check_signs(signs)
    return tariff_by(signs, steps_by(signs, [number], _round(signs, 0), [ONE]))


def just(signs, message):
    """Returns the tariff that gives 1 to a message, 0 to all others."""
    check_signs(signs)
    check_message(signs, message)
    heads = [message[:cut] for cut in range(len(message) + 1)]
    # No two rests behind beginnings of the message are alike, and all others are 0.
    others = [NONE] * len(message)
    return tariff_by_form(signs, Form(heads, steps_by(signs, [ONE] + others, _line(message), others + [ONE])))


def lengths(signs):
    """Returns the tariff that gives the length."""
    check_signs(signs)
    steps = [(0, sign, 1, ONE) for sign in signs]
    roads = _round(signs, 0) + steps + _round(signs, 1)
    return tariff_by(signs, steps_by(signs, [ONE, NONE], roads, [NONE, ONE]))


def places(signs, part):
    """Returns the tariff that gives the number of places at which a part stands."""
    check_signs(signs)
    check_message(signs, part)
    if part == "":
        raise Endless(part)
    last = len(part)
    roads = _round(signs, 0) + _line(part) + _round(signs, last)
    return tariff_by(signs, steps_by(signs, [ONE] + [NONE] * last, roads, [NONE] * last + [ONE]))


def powers(one, times):
    """Returns the tariff of so many times one, put behind each other."""
    if times < 0:
        raise InvalidNumber(times)
    made, doubled = None, one
    while times > 0:
        if times & 1 == 1:
            made = doubled if made is None else behind(made, doubled)
        times = times >> 1
        if times > 0:
            doubled = behind(doubled, doubled)
    return just(one.signs, "") if made is None else made


def _check_words(signs, words, many):
    """Raises an error if words have other signs, or are not so many."""
    for word in words:
        check_message(signs, word)
    if len(words) != many:
        raise InvalidBook(list(words))


def _round(signs, state):
    """Returns the roads of all signs from a state to itself."""
    return [(state, sign, state, ONE) for sign in signs]


def _line(message):
    """Returns the roads of a message from state 0 on, each to the next state."""
    return [(at, sign, at + 1, ONE) for at, sign in enumerate(message)]
