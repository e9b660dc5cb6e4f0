"""Chances: sources, tariffs whose worths are the chances of what a sender makes."""

from textworths.closures import rest, scaled
from textworths.errors import Endless, InvalidNumber, InvalidSource, NoChance
from textworths.forms import form_of_nothing
from textworths.joins import beside, crossed, multiplied
from textworths.numbers import added, check_numbers, number, product, quotient
from textworths.signs import check_message, check_signs
from textworths.spaces import Space
from textworths.sums import ends_with_a_sign, total_by
from textworths.steps import steps_by
from textworths.tariffs import check_like_signs, tariff_by

ONE = (1, 1)
NONE = (0, 1)


def is_source(tariff):
    """Tells whether a tariff gives chances: 1 to the empty message, to each one the sum of those behind it."""
    # What all rests have in common, the free ones of the heads have.
    return tariff("") == ONE and ends_with_a_sign(tariff.steps) == tariff.steps.last


def evenly(signs):
    """Returns the source of which all messages of a length have the same chance."""
    check_signs(signs)
    roads = [(0, sign, 0, (1, len(signs))) for sign in signs]
    return tariff_by(signs, steps_by(signs, [ONE], roads, [ONE]))


def after(source, message):
    """Returns the source of what comes behind a message."""
    _check_sources([source])
    check_message(source.signs, message)
    chance = source(message)
    if chance == NONE:
        raise NoChance(message)
    return scaled(rest(source, message), quotient(ONE, chance))


def expected(source, tariff, length):
    """Returns the sum of the chance times the worth over all messages of a length."""
    _check_asked(source, tariff, length)
    return total_by(crossed(source.steps, tariff.steps), length)


def spread(source, tariff, length):
    """Returns the expected square of the worth less the square of the expected worth."""
    _check_asked(source, tariff, length)
    weighed = crossed(source.steps, tariff.steps)
    middle = total_by(weighed, length)
    square = total_by(crossed(weighed, tariff.steps), length)
    return added(square, product(middle, number(-middle[0], middle[1])))


def seen_by(source, part, length):
    """Returns the sum of the chances of the messages of a length in which a part stands."""
    _check_part(source, part, length)
    last = len(part)
    # What was seen once stays seen, whatever comes behind it.
    roads = _roads_to_part(source.signs, part) + [(last, sign, last, ONE) for sign in source.signs]
    return _seen(source, roads, last, length)


def first_seen_at(source, part, length):
    """Returns the sum of the chances of those in which a part stands at the end and nowhere else."""
    _check_part(source, part, length)
    return _seen(source, _roads_to_part(source.signs, part), len(part), length)


def independent(source):
    """Tells whether the chance of one message behind another one is always the product of both."""
    _check_sources([source])
    # Then all rests are multiples of the source itself: it is the only head.
    return len(source) == 1


def remembers(source, most):
    """Returns how many of the last signs bind what comes behind them, None if more than so many."""
    _check_sources([source])
    _check_count(most)
    steps = source.steps
    states = range(steps.size)
    # Of each message with unlike rests ahead of it: the worths at the states from each state on.
    open_ones = [[[1 if at == state else 0 for at in states] for state in states]]
    for many in range(most + 1):
        open_ones = [rows for rows in open_ones if not _are_multiples(rows)]
        if open_ones == []:
            return many
        open_ones = [[steps.moved(1, row, sign)[1] for row in rows] for rows in open_ones for sign in source.signs]
    return None


def mixed(sources, shares):
    """Returns the source that adds up sources, each times its share."""
    _check_sources(sources)
    check_like_signs(sources)
    check_numbers(shares)
    if len(shares) != len(sources) or _sum(shares) != ONE:
        raise InvalidNumber(list(shares))
    steps = form_of_nothing(sources[0].signs).steps
    for source, share in zip(sources, shares):
        steps = beside(steps, multiplied(source.steps, share))
    return tariff_by(sources[0].signs, steps)


def _check_sources(tariffs):
    """Raises an error for the first tariff that is no source."""
    for tariff in tariffs:
        if not is_source(tariff):
            raise InvalidSource((tariff.heads, tariff.table, tariff.worths))


def _check_asked(source, tariff, length):
    """Raises the first error of a source, a tariff beside it and a length."""
    _check_sources([source])
    check_like_signs([source, tariff])
    _check_count(length)


def _check_part(source, part, length):
    """Raises the first error of a source, a part of messages and a length."""
    _check_sources([source])
    check_message(source.signs, part)
    if part == "":
        raise Endless(part)
    _check_count(length)


def _check_count(count):
    """Raises an error if an integer is less than 0."""
    if count < 0:
        raise InvalidNumber(count)


def _sum(numbers):
    """Returns the sum of numbers."""
    found = NONE
    for entry in numbers:
        found = added(found, entry)
    return found


def _seen(source, roads, last, length):
    """Returns the sum of the chances of the messages of a length that lead along roads to the last state."""
    others = [NONE] * last
    seeing = steps_by(source.signs, [ONE] + others, roads, others + [ONE])
    return total_by(crossed(source.steps, seeing), length)


def _roads_to_part(signs, part):
    """Returns the roads between the beginnings of a part, each the longest one that ends what was read."""
    return [(at, sign, _longest(part, part[:at] + sign), ONE) for at in range(len(part)) for sign in signs]


def _longest(part, read):
    """Returns how long the longest beginning of a part is with which something ends."""
    return max([size for size in range(len(part) + 1) if read.endswith(part[:size])])


def _are_multiples(rows):
    """Tells whether all rows are multiples of one of them."""
    space = Space()
    for row in rows:
        left = space.left_of({at: entry for at, entry in enumerate(row) if entry != 0})
        if left != {}:
            if len(space) == 1:
                return False
            space.take(left)
    return True
