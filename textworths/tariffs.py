"""Tariffs: the worths of all messages, told by their least form."""

from textworths.errors import InvalidMachine, UnlikeSigns
from textworths.forms import Form, form_of, has_shape, is_form, parts_of_form, table_of, worths_of
from textworths.free import Free
from textworths.joins import beside, multiplied
from textworths.machines import Machine
from textworths.numbers import check_numbers_within, number
from textworths.signs import check_message, check_signs
from textworths.spaces import Space
from textworths.steps import steps_by
from textworths.views import views


class Tariff:
    """A tariff by its form, which never changes; called with a message, it gives its worth."""

    def __init__(self, signs, heads, table, worths):
        # A form that the program found itself is handed in as such, and is not proved again.
        form = heads if isinstance(heads, Form) else _proved_form(signs, heads, table, worths)
        self._signs = signs
        self._heads = form.firsts
        self.steps = form.steps

    @property
    def signs(self):
        """The signs, as passed."""
        return self._signs

    @property
    def heads(self):
        """The heads, in a new list."""
        return list(self._heads)

    @property
    def table(self):
        """For each head, for each sign, the numbers for the heads, in new lists."""
        return table_of(self._signs, self.steps)

    @property
    def worths(self):
        """The worths of the heads, in a new list."""
        return worths_of(self.steps)

    def __call__(self, message):
        """Returns the worth of a message."""
        check_message(self._signs, message)
        return self.steps.worth(message)

    def __len__(self):
        return len(self._heads)

    def __eq__(self, other):
        # Two tariffs are alike for all messages exactly if they have the same form.
        return (isinstance(other, Tariff) and self._signs == other._signs and self._heads == other._heads
                and self.steps.last == other.steps.last and self.steps.of_sign == other.steps.of_sign)


def tariff_of(machine):
    """Returns the tariff of a machine."""
    return tariff_by(machine.signs, machine.steps)


def machine_of(tariff):
    """Returns a machine of a tariff with one state for each head."""
    begin, roads, end = parts_of_form(tariff.signs, tariff.table, tariff.worths)
    return Machine(tariff.signs, begin, roads, end)


def first_apart(one, other):
    """Returns the first message to which two tariffs give unlike worths, None if there is none."""
    check_like_signs([one, other])
    if one == other:
        return None
    return first_worth_by(one.signs, beside(one.steps, multiplied(other.steps, (-1, 1))))


def first_worth(tariff):
    """Returns the first message whose worth is not 0, None if there is none."""
    # A message with a worth, of which none ahead has one, is told by none ahead: it is a head.
    for head, above in zip(tariff.heads, tariff.steps.last[1]):
        if above != 0:
            return head
    return None


def told_by(tariff, others):
    """Returns the numbers with which others add up to a tariff, None if there are none.

    The number is 0 for each that is a sum of multiples of those ahead of it.
    """
    check_like_signs([tariff] + others)
    width, rows = _common_rows([tariff] + others)
    free = Free(width)
    chosen = [at for at, row in enumerate(rows[1:]) if free.told(row) is None]
    told = free.told(rows[0])
    if told is None:
        return None
    below, aboves = told
    found = [(0, 1)] * len(others)
    for at, above in zip(chosen, aboves):
        found[at] = number(above, below)
    return found


def free_ones(tariffs):
    """Returns the indexes of the tariffs that are no sum of multiples of those ahead of them."""
    check_like_signs(tariffs)
    width, rows = _common_rows(tariffs)
    free = Free(width)
    return [at for at, row in enumerate(rows) if free.told(row) is None]


def check_like_signs(tariffs):
    """Raises an error for the first tariff whose signs are not those of the first of all."""
    for tariff in tariffs:
        if tariff.signs != tariffs[0].signs:
            raise UnlikeSigns(tariff.signs)


def tariff_by(signs, steps):
    """Returns the tariff of a machine with some steps."""
    return tariff_by_form(signs, form_of(signs, steps))


def tariff_by_form(signs, form):
    """Returns the tariff with a form that was found."""
    return Tariff(signs, form, [], [])


def first_worth_by(signs, steps):
    """Returns the first message to which a machine with some steps gives a worth that is not 0."""
    space = Space()
    waiting = [("", steps.first[1])]
    at = 0
    while at < len(waiting):
        message, row = waiting[at]
        left = space.left_of({state: above for state, above in enumerate(row) if above != 0})
        # What was taken off has the worth 0, so what is left tells whether this one has.
        whole = [left.get(state, 0) for state in range(steps.size)]
        if steps.worth_at(1, whole) != (0, 1):
            return message
        if left != {}:
            space.take(left)
            waiting.extend([(message + sign, steps.moved(1, whole, sign)[1]) for sign in signs])
        at += 1
    return None


def _proved_form(signs, heads, table, worths):
    """Returns the form with some heads, table and worths; raises an error if there is none."""
    check_signs(signs)
    check_numbers_within(table)
    check_numbers_within(worths)
    if not has_shape(signs, heads, table, worths):
        raise InvalidMachine(list(heads))
    begin, roads, end = parts_of_form(signs, table, worths)
    steps = steps_by(signs, begin, roads, end)
    if not is_form(signs, heads, table, steps):
        raise InvalidMachine(list(heads))
    return Form(list(heads), steps)


def _common_rows(tariffs):
    """Returns (width, rows): a row for each tariff, which add up as the tariffs do."""
    if tariffs == []:
        return 0, []
    steps = tariffs[0].steps
    firsts = [0]
    for tariff in tariffs[1:]:
        firsts.append(steps.size)
        steps = beside(steps, tariff.steps)
    seen_by = views(steps)
    # A tariff without heads has no state of its own to be seen at.
    rows = [[view[first] if len(tariff) > 0 else 0 for view in seen_by]
            for tariff, first in zip(tariffs, firsts)]
    return len(seen_by), rows
