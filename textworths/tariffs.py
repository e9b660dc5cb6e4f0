"""Tariffs: the worths of all messages, told by their least form."""

from textworths.errors import InvalidMachine, UnlikeSigns
from textworths.forms import first_told, form_of, has_shape, is_form, parts_of_form, views
from textworths.joins import beside, multiplied
from textworths.machines import Machine
from textworths.numbers import check_numbers_within
from textworths.signs import check_message, check_signs
from textworths.spaces import Free
from textworths.steps import Steps


class Tariff:
    """A tariff by its form, which never changes; called with a message, it gives its worth."""

    def __init__(self, signs, heads, table, worths):
        check_signs(signs)
        check_numbers_within(table)
        check_numbers_within(worths)
        if not has_shape(signs, heads, table, worths):
            raise InvalidMachine(list(heads))
        begin, roads, end = parts_of_form(signs, table, worths)
        steps = Steps(signs, begin, roads, end)
        if not is_form(signs, heads, table, steps):
            raise InvalidMachine(list(heads))
        self._signs = signs
        self._heads = list(heads)
        self._table = [[list(row) for row in rows] for rows in table]
        self._worths = list(worths)
        self._steps = steps

    @property
    def signs(self):
        """The signs, as passed."""
        return self._signs

    @property
    def heads(self):
        """The heads, in a new list."""
        return list(self._heads)

    @property
    def table(self):
        """For each head, for each sign, the numbers for the heads, in new lists."""
        return [[list(row) for row in rows] for rows in self._table]

    @property
    def worths(self):
        """The worths of the heads, in a new list."""
        return list(self._worths)

    def __call__(self, message):
        """Returns the worth of a message."""
        check_message(self._signs, message)
        return self._steps.worth(message)

    def __len__(self):
        return len(self._heads)

    def __eq__(self, other):
        # Two tariffs are alike for all messages exactly if they have the same form.
        return (isinstance(other, Tariff) and self._signs == other._signs
                and self._heads == other._heads and self._worths == other._worths
                and self._table == other._table)


def tariff_of(machine):
    """Returns the tariff of a machine."""
    return tariff_by(machine.signs, (machine.begin, machine.roads, machine.end))


def machine_of(tariff):
    """Returns a machine of a tariff with one state for each head."""
    begin, roads, end = parts_of(tariff)
    return Machine(tariff.signs, begin, roads, end)


def first_apart(one, other):
    """Returns the first message to which two tariffs give unlike worths, None if there is none."""
    check_like_signs([one, other])
    if one == other:
        return None
    return first_worth_by(one.signs, beside(parts_of(one), multiplied(parts_of(other), (-1, 1))))


def first_worth(tariff):
    """Returns the first message whose worth is not 0, None if there is none."""
    # A message with a worth, of which none ahead has one, is told by none ahead: it is a head.
    for head, worth in zip(tariff.heads, tariff.worths):
        if worth != (0, 1):
            return head
    return None


def told_by(tariff, others):
    """Returns the numbers with which others add up to a tariff, None if there are none.

    The number is 0 for each that is a sum of multiples of those ahead of it.
    """
    check_like_signs([tariff] + others)
    width, rows = _common_rows([tariff] + others)
    free = Free(width)
    chosen = [at for at, row in enumerate(rows[1:]) if free.told(1, row) is None]
    numbers = free.told(1, rows[0])
    if numbers is None:
        return None
    found = [(0, 1)] * len(others)
    for at, entry in zip(chosen, numbers):
        found[at] = entry
    return found


def free_ones(tariffs):
    """Returns the indexes of the tariffs that are no sum of multiples of those ahead of them."""
    check_like_signs(tariffs)
    width, rows = _common_rows(tariffs)
    free = Free(width)
    return [at for at, row in enumerate(rows) if free.told(1, row) is None]


def check_like_signs(tariffs):
    """Raises an error for the first tariff whose signs are not those of the first of all."""
    for tariff in tariffs:
        if tariff.signs != tariffs[0].signs:
            raise UnlikeSigns(tariff.signs)


def parts_of(tariff):
    """Returns (begin, roads, end) of a machine of a tariff with one state for each head."""
    return parts_of_form(tariff.signs, tariff.table, tariff.worths)


def steps_of(tariff):
    """Returns the steps of a machine of a tariff with one state for each head."""
    begin, roads, end = parts_of(tariff)
    return Steps(tariff.signs, begin, roads, end)


def tariff_by(signs, parts):
    """Returns the tariff of a machine with some parts (begin, roads, end)."""
    begin, roads, end = parts
    heads, table, worths = form_of(signs, Steps(signs, begin, roads, end))
    return Tariff(signs, heads, table, worths)


def first_worth_by(signs, parts):
    """Returns the first message to which a machine with some parts gives a worth that is not 0."""
    begin, roads, end = parts
    return first_told(signs, Steps(signs, begin, roads, end))


def _common_rows(tariffs):
    """Returns (width, rows): a row for each tariff, which add up as the tariffs do."""
    parts = ([], [], [])
    firsts = []
    for tariff in tariffs:
        firsts.append(len(parts[0]))
        parts = beside(parts, parts_of(tariff))
    if parts[0] == []:
        return 0, [{} for _ in tariffs]
    begin, roads, end = parts
    seen_by = views(Steps(tariffs[0].signs, begin, roads, end))
    # A tariff without heads has no state of its own to be seen at.
    rows = [{at: view[first] for at, view in enumerate(seen_by) if len(tariff) > 0 and first in view}
            for tariff, first in zip(tariffs, firsts)]
    return len(seen_by), rows
