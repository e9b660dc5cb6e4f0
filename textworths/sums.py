"""Sums: the worths of all messages of a length, added up."""

from textworths.closures import each, places
from textworths.errors import InvalidNumber, UnlikeSigns
from textworths.forms import Form, form_of_reached, form_of_seen
from textworths.joins import along, beside, kept_to, multiplied
from textworths.numbers import power, product, quotient
from textworths.signs import check_sign
from textworths.steps import Steps, led_on
from textworths.tariffs import first_worth_by, tariff_by, tariff_by_form

NONE = (0, 1)


def total(tariff, length):
    """Returns the sum of the worths of all messages of a length."""
    _check_counts([length])
    return total_by(tariff.steps, length)


def totals(tariff, many):
    """Returns the totals of so many lengths from 0 on."""
    _check_counts([many])
    steps = along(tariff.steps)
    found = []
    below, row = steps.first
    for _ in range(many):
        found.append(steps.worth_at(below, row))
        below, row = steps.moved(below, row, "a")
    return found


def mean(tariff, length):
    """Returns the total by the number of messages of a length."""
    _check_counts([length])
    return quotient(total(tariff, length), power((len(tariff.signs), 1), length))


def recurrence(tariff):
    """Returns the shortest list of numbers by which each total follows from those ahead of it."""
    # Of one sign alone, the last row tells the first length that is no head by the heads.
    table = tariff_by("a", along(tariff.steps)).table
    return [] if table == [] else table[-1][0][::-1]


def first_total(tariff):
    """Returns the first length whose total is not 0, None if there is none."""
    return _first_length(along(tariff.steps))


def first_unlike_total(one, other):
    """Returns the first length of which two tariffs have unlike totals, None if there is none."""
    if len(one.signs) != len(other.signs):
        raise UnlikeSigns(other.signs)
    return _first_length(beside(along(one.steps), multiplied(along(other.steps), (-1, 1))))


def part_total(tariff, sign, times, length):
    """Returns the sum of the worths of the messages of a length in which a sign stands so many times."""
    _check_counts([times, length])
    check_sign(tariff.signs, sign)
    if times > length:
        return NONE
    steps = tariff.steps
    factor, roads = steps.of_sign[sign]
    factor_2, roads_2 = along(kept_to(steps, tariff.signs.replace(sign, ""))).of_sign["a"]
    below, row = steps.first
    # Worths behind as many signs of both kinds are over the same integer below: they just add up.
    rows = [row]
    for _ in range(length):
        rows = _with_a_sign_more(rows, roads, roads_2)[:times + 1]
    belows = product(power((factor, 1), times), power((factor_2, 1), length - times))
    return steps.worth_at(below * belows[0], rows[times])


def counted(tariff, sign):
    """Returns the tariff that gives the worth times the number of places at which a sign stands."""
    check_sign(tariff.signs, sign)
    return each(tariff, places(tariff.signs, sign))


def last_out(tariff):
    """Returns the tariff that adds up the worths of the message with each sign behind it."""
    steps = tariff.steps
    ends = Steps(steps.first, ends_with_a_sign(steps), steps.of_sign)
    return tariff_by_form(tariff.signs, form_of_reached(tariff.signs, Form(tariff.heads, ends)))


def first_out(tariff):
    """Returns the tariff that adds up the worths of the message with each sign ahead of it."""
    steps = tariff.steps
    below, row = steps.first
    begins = Steps(along(steps).moved(below, row, "a"), steps.last, steps.of_sign)
    return tariff_by_form(tariff.signs, form_of_seen(tariff.signs, begins))


def total_by(steps, length):
    """Returns the sum of the worths that a machine gives to all messages of a length."""
    return along(steps).worth("a" * length)


def ends_with_a_sign(steps):
    """Returns what the states add up to in the end with each sign ahead of that, as (below, aboves)."""
    return along(steps).ends_ahead_of("a")


def _check_counts(counts):
    """Raises an error for the first integer that is less than 0."""
    for count in counts:
        if count < 0:
            raise InvalidNumber(count)


def _first_length(steps):
    """Returns the first length to which a machine of one sign gives a worth that is not 0."""
    first = first_worth_by("a", steps)
    return None if first is None else len(first)


def _with_a_sign_more(rows, roads, roads_2):
    """Returns the worths at the states, by how often the first kind of sign stands."""
    nothing = [0] * len(roads)
    goes = [nothing] + [led_on(row, roads) for row in rows]
    stays = [led_on(row, roads_2) for row in rows] + [nothing]
    return [[stay + go for stay, go in zip(row, row_2)] for row, row_2 in zip(stays, goes)]
