"""Sums: the worths of all messages of a length, added up."""

from textworths.closures import each, places
from textworths.errors import InvalidNumber, UnlikeSigns
from textworths.joins import along, beside, multiplied
from textworths.numbers import added, power, product, quotient
from textworths.signs import check_sign
from textworths.steps import Steps, led_on
from textworths.tariffs import first_worth_by, parts_of, tariff_by

NONE = (0, 1)


def total(tariff, length):
    """Returns the sum of the worths of all messages of a length."""
    _check_counts([length])
    return total_by(parts_of(tariff), length)


def totals(tariff, many):
    """Returns the totals of so many lengths from 0 on."""
    _check_counts([many])
    steps = _steps_along(parts_of(tariff))
    found = []
    below, row = steps.first
    for _ in range(many):
        found.append(steps.worth_at(below, row))
        below, row = steps.moved(below, row, "a")
    return found


def mean(tariff, length):
    """Returns the total by the number of messages of a length."""
    _check_counts([length])
    return quotient(total(tariff, length), power((len(tariff.signs), 1), length))


def recurrence(tariff):
    """Returns the shortest list of numbers by which each total follows from those ahead of it."""
    # Of one sign alone, the last row tells the first length that is no head by the heads.
    table = tariff_by("a", along(parts_of(tariff))).table
    return [] if table == [] else table[-1][0][::-1]


def first_total(tariff):
    """Returns the first length whose total is not 0, None if there is none."""
    return _first_length(along(parts_of(tariff)))


def first_unlike_total(one, other):
    """Returns the first length of which two tariffs have unlike totals, None if there is none."""
    if len(one.signs) != len(other.signs):
        raise UnlikeSigns(other.signs)
    return _first_length(beside(along(parts_of(one)), multiplied(along(parts_of(other)), (-1, 1))))


def part_total(tariff, sign, times, length):
    """Returns the sum of the worths of the messages of a length in which a sign stands so many times."""
    _check_counts([times, length])
    check_sign(tariff.signs, sign)
    if times > length:
        return NONE
    begin, roads, end = parts_of(tariff)
    parted = [(state, "a" if of_road == sign else "b", goal, entry) for state, of_road, goal, entry in roads]
    steps = Steps("ab", begin, parted, end)
    below, row = steps.first
    # Worths behind as many signs of both kinds are over the same integer below: they just add up.
    rows = [row]
    for _ in range(length):
        rows = _with_a_sign_more(steps, rows, times)
    factor = power((steps.of_sign["a"][0], 1), times)
    factor_2 = power((steps.of_sign["b"][0], 1), length - times)
    return steps.worth_at(below * factor[0] * factor_2[0], rows[times])


def counted(tariff, sign):
    """Returns the tariff that gives the worth times the number of places at which a sign stands."""
    check_sign(tariff.signs, sign)
    return each(tariff, places(tariff.signs, sign))


def last_out(tariff):
    """Returns the tariff that adds up the worths of the message with each sign behind it."""
    begin, roads, _ = parts_of(tariff)
    return tariff_by(tariff.signs, (begin, roads, ends_with_a_sign(tariff)))


def first_out(tariff):
    """Returns the tariff that adds up the worths of the message with each sign ahead of it."""
    begin, roads, end = parts_of(tariff)
    begins = [NONE] * len(begin)
    for state, _, goal, entry in roads:
        begins[goal] = added(begins[goal], product(begin[state], entry))
    return tariff_by(tariff.signs, (begins, roads, end))


def total_by(parts, length):
    """Returns the sum of the worths that a machine gives to all messages of a length."""
    return _steps_along(parts).worth("a" * length)


def ends_with_a_sign(tariff):
    """Returns, for each head, the sum of the worths of it with each sign behind it."""
    _, roads, end = parts_of(tariff)
    ends = [NONE] * len(end)
    for state, _, goal, entry in roads:
        ends[state] = added(ends[state], product(entry, end[goal]))
    return ends


def _check_counts(counts):
    """Raises an error for the first integer that is less than 0."""
    for count in counts:
        if count < 0:
            raise InvalidNumber(count)


def _steps_along(parts):
    """Returns the steps from each length to the next."""
    begin, roads, end = along(parts)
    return Steps("a", begin, roads, end)


def _first_length(parts):
    """Returns the first length to which a machine of one sign gives a worth that is not 0."""
    first = first_worth_by("a", parts)
    return None if first is None else len(first)


def _with_a_sign_more(steps, rows, most):
    """Returns the worths at the states, by how often the first kind of sign stands, at most so often."""
    size = steps.size
    stays = [led_on(row, steps.of_sign["b"][1]) for row in rows] + [[0] * size]
    goes = [[0] * size] + [led_on(row, steps.of_sign["a"][1]) for row in rows]
    more = [[stay + go for stay, go in zip(row, row_2)] for row, row_2 in zip(stays, goes)]
    return more[:most + 1]
