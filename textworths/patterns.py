"""Patterns: tuples that tell messages, and the number of ways in which they fit each one."""

from textworths.errors import Endless, InvalidPattern
from textworths.fits import first_fit_of_one
from textworths.joins import beside, crossed, kept_to, multiplied
from textworths.numbers import added, check_number, product
from textworths.positions import Positions
from textworths.signs import check_message, check_sign, check_signs
from textworths.steps import steps_by
from textworths.tariffs import first_worth_by, tariff_by


def ways(signs, pattern):
    """Returns the tariff of the ways in which a pattern fits."""
    _check(signs, [pattern])
    return tariff_by(signs, _steps(signs, pattern))


def readings(signs, pattern, message):
    """Returns the number of ways in which a pattern without weights fits a message."""
    _check(signs, [pattern])
    check_message(signs, message)
    _check_unweighed([pattern])
    return _steps(signs, pattern).worth(message)[0]


def is_single(signs, pattern):
    """Tells whether no message has more than one way, of a pattern without weights."""
    return first_double(signs, pattern) is None


def first_double(signs, pattern):
    """Returns the first message with more than one way, None if there is none."""
    steps = ways(signs, pattern).steps
    _check_unweighed([pattern])
    # Ways are integers from 0 on: just those above 1 are not their own squares.
    return first_worth_by(signs, beside(crossed(steps, steps), multiplied(steps, (-1, 1))))


def same_ways(signs, one, other):
    """Tells whether two patterns have as many ways for each message."""
    return ways(signs, one) == ways(signs, other)


def same_messages(signs, one, other):
    """Tells whether two patterns without weights fit the same messages."""
    return first_fit_apart(signs, one, other) is None


def first_fit_apart(signs, one, other):
    """Returns the first message that just one of two patterns without weights fits."""
    _check(signs, [one, other])
    _check_unweighed([one, other])
    return first_fit_of_one(signs, Positions(signs, one).parts(), Positions(signs, other).parts())


def without(signs, pattern, sign):
    """Returns the tariff of the ways of the messages that do not have a sign."""
    _check(signs, [pattern])
    check_sign(signs, sign)
    others = signs.replace(sign, "")
    return tariff_by(signs, kept_to(_steps(signs, pattern), others))


def least_fit(signs, pattern):
    """Returns the first message that a pattern fits, None if there is none."""
    _check(signs, [pattern])
    return first_worth_by(signs, _steps(signs, pattern))


def _steps(signs, pattern):
    """Returns the steps of the machine that gives the ways of a pattern."""
    begin, roads, end = Positions(signs, pattern).parts()
    return steps_by(signs, begin, roads, end)


def _check(signs, patterns):
    """Raises the first error of signs and of patterns over them."""
    check_signs(signs)
    for pattern in patterns:
        _check_leaves(signs, pattern)
        _empty_ways(pattern)


def _check_leaves(signs, pattern):
    """Raises an error for the first sign or number of a pattern that is wrong, outside first."""
    if pattern[0] == "sign":
        check_sign(signs, pattern[1])
    if pattern[0] == "weigh":
        check_number(pattern[1])
    for part in _parts(pattern):
        _check_leaves(signs, part)


def _empty_ways(pattern):
    """Returns the ways of the empty message; raises an error if a "many" would have no end."""
    told = [_empty_ways(part) for part in _parts(pattern)]
    kind = pattern[0]
    if kind == "many":
        if told[0] != (0, 1):
            raise Endless(pattern[1])
        return (1, 1)
    if kind == "then":
        return product(told[0], told[1])
    if kind == "or":
        return added(told[0], told[1])
    if kind == "weigh":
        return product(pattern[1], told[0])
    return (1, 1) if kind == "empty" else (0, 1)


def _check_unweighed(patterns):
    """Raises an error for the first pattern that has a weight."""
    for pattern in patterns:
        if _has_weight(pattern):
            raise InvalidPattern(pattern)


def _has_weight(pattern):
    """Tells whether a pattern has a weight within it."""
    return pattern[0] == "weigh" or any([_has_weight(part) for part in _parts(pattern)])


def _parts(pattern):
    """Returns the patterns of which a pattern is made, from the left."""
    if pattern[0] in ("then", "or"):
        return [pattern[1], pattern[2]]
    if pattern[0] == "many":
        return [pattern[1]]
    if pattern[0] == "weigh":
        return [pattern[2]]
    return []
