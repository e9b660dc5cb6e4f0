"""Forms: the heads of a tariff, and the steps from each to the next."""

from math import gcd

from textworths.free import Free
from textworths.numbers import content_of, is_pair, number, shortened
from textworths.steps import Steps, lcm_of, led_on
from textworths.views import is_seen_apart, parting_views, seen, views, whole_views

# Machines with more states, or with longer numbers, are asked first what messages see of them.
MOST_STATES = 40
MOST_BITS = 200


class Form:
    """The form of a tariff: its heads in `firsts`, its table and its worths in `steps`.

    There is a state for each head, at which a message begins with 1 if it is the first one. The
    whole numbers are as short as they can be, so two tariffs are alike if these are.
    """

    def __init__(self, firsts, steps):
        self.firsts = firsts
        self.steps = steps


def form_of(signs, steps):
    """Returns the form of the tariff with some steps."""
    bits = sum([below.bit_length() for below, _ in list(steps.of_sign.values())])
    if steps.size > MOST_STATES or bits > MOST_BITS:
        return _form_by(signs, steps, parting_views(steps))
    return form_of_reached(signs, form_of_seen(signs, steps))


def form_of_seen(signs, steps):
    """Returns the form of the tariff with some steps if messages tell all their states apart."""
    return _form_by(signs, steps, None)


def form_of_reached(signs, form):
    """Returns the form of a tariff from one with a state for each message that reaches another one."""
    if is_seen_apart(form.steps):
        return form
    return _form_by(signs, form.steps, whole_views(form.steps))


def form_of_nothing(signs):
    """Returns the form of the tariff that gives 0 to all messages."""
    return Form([], Steps((1, []), (1, []), {sign: (1, []) for sign in signs}))


def table_of(signs, steps):
    """Returns the table of a form with some steps."""
    return [[_numbers_of(steps.of_sign[sign], state) for sign in signs] for state in range(steps.size)]


def worths_of(steps):
    """Returns the worths of the heads of a form with some steps."""
    below, aboves = steps.last
    return [number(above, below) for above in aboves]


def parts_of_form(signs, table, worths):
    """Returns (begin, roads, end) of the machine with one state for each head."""
    begin = [(1, 1) if at == 0 else (0, 1) for at in range(len(worths))]
    roads = [(state, sign, goal, entry) for state, rows in enumerate(table) for sign, row in zip(signs, rows)
             for goal, entry in enumerate(row) if entry[0] != 0]
    return begin, roads, list(worths)


def has_shape(signs, heads, table, worths):
    """Tells whether heads, table and worths are lists as long and as deep as those of a form."""
    many = len(heads)
    return (all([isinstance(head, str) for head in heads]) and _are_numbers(worths, many)
            and isinstance(table, list) and len(table) == many
            and all([_are_rows(rows, len(signs), many) for rows in table]))


def is_form(signs, heads, table, steps):
    """Tells whether heads and a table of the right shape, with the steps by them, are a form."""
    known = {head: True for head in heads}
    if heads != [] and heads[0] != "":
        return False
    for last, head in zip(heads, heads[1:]):
        if not _is_next_head(signs, known, last, head):
            return False
    for head, rows in zip(heads, table):
        for sign, row in zip(signs, rows):
            if not _is_row(known, heads, head + sign, row):
                return False
    # Then heads are told by no messages ahead of them exactly if they are free of each other.
    return len(views(steps)) == len(heads)


def _form_by(signs, steps, seen_by):
    """Returns the form of the tariff with some steps, by what views see of the states, None for all."""
    free = Free(steps.size if seen_by is None else len(seen_by))
    heads, kept, told = [], [], {}
    below, row = steps.first
    waiting = [("", 0, "")]
    at = 0
    while at < len(waiting):
        message, head, sign = waiting[at]
        reached = _moved(kept[head], steps.of_sign[sign]) if at > 0 else _shortest(1, below, row)
        numbers = free.told(reached[2] if seen_by is None else seen(reached[2], seen_by))
        if numbers is None:
            # Only what is behind a head can be a head: so those that wait stay in their order.
            waiting.extend([(message + more, len(heads), more) for more in signs])
            heads.append(message)
            kept.append(reached)
        else:
            told[message] = (reached, numbers)
        at += 1
    first = (1, [1 if head == "" else 0 for head in heads])
    return Form(heads, Steps(first, _lasts(kept, steps.last), _roads_of(signs, heads, kept, told)))


def _moved(reached, told):
    """Returns the worths at the states behind one sign more."""
    above, below, row = reached
    factor, roads = told
    return _shortest(above, below * factor, led_on(row, roads))


def _shortest(above, below, row):
    """Returns (above, below, row): above by below times whole numbers with no common divisor."""
    common = content_of(row)
    if common > 1:
        row = [entry // common for entry in row]
        above = above * common
    if below > 1:
        common = gcd(above, below)
        above, below = above // common, below // common
    return above, below, row


def _lasts(kept, last):
    """Returns the worths of heads as (below, aboves)."""
    factor, ends = last
    common = lcm_of([below for _, below, _ in kept])
    aboves = [above * (common // below) * sum([entry * end for entry, end in zip(row, ends)])
              for above, below, row in kept]
    return shortened(common * factor, aboves)


def _roads_of(signs, heads, kept, told):
    """Returns the roads of each sign between heads, by the numbers that tell the messages behind them."""
    # Free rows are told but for a factor each, which comes in here.
    common = lcm_of([above for above, _, _ in kept])
    factors = [below * (common // above) for above, below, _ in kept]
    place = {head: at for at, head in enumerate(heads)}
    of_sign = {}
    for sign in signs:
        rows = []
        for head in heads:
            message = head + sign
            if message in told:
                rows.append(_told_row(told[message], common, factors))
            else:
                rows.append((1, [(place[message], 1)]))
        below = lcm_of([row[0] for row in rows])
        of_sign[sign] = (below, [_times(roads, below // factor) for factor, roads in rows])
    return of_sign


def _told_row(told, common, factors):
    """Returns (below, roads) of a row from the numbers that tell it."""
    reached, numbers = told
    above, below, _ = reached
    factor, aboves = numbers
    below = below * factor * common
    if below < 0:
        above, below = -above, -below
    if above == 1 and below == 1:
        entries = [entry * weight for entry, weight in zip(aboves, factors)]
    else:
        below, entries = shortened(below, [above * entry * weight for entry, weight in zip(aboves, factors)])
    return below, [(goal, entry) for goal, entry in enumerate(entries) if entry != 0]


def _times(roads, factor):
    """Returns so many times the roads of a state."""
    return roads if factor == 1 else [(goal, above * factor) for goal, above in roads]


def _numbers_of(told, state):
    """Returns the row of the numbers of the roads of a state."""
    below, roads = told
    row = [(0, 1) for _ in roads]
    for goal, above in roads[state]:
        row[goal] = (above, 1) if below == 1 else number(above, below)
    return row


def _are_rows(rows, count, many):
    """Tells whether something is a list of so many lists of so many numbers."""
    return isinstance(rows, list) and len(rows) == count and all([_are_numbers(row, many) for row in rows])


def _are_numbers(row, many):
    """Tells whether something is a list of so many tuples of two integers."""
    return isinstance(row, list) and len(row) == many and all([is_pair(entry) for entry in row])


def _is_next_head(signs, known, last, head):
    """Tells whether a head may stand behind another one: its beginnings are heads, too."""
    return _is_ahead(last, head) and head[-1] in signs and head[:-1] in known


def _is_row(known, heads, message, row):
    """Tells whether a row may tell a message: a head by itself, all others by heads ahead of them."""
    if message in known:
        return row == [(1, 1) if head == message else (0, 1) for head in heads]
    return all([entry[0] == 0 or _is_ahead(head, message) for head, entry in zip(heads, row)])


def _is_ahead(one, other):
    """Tells whether a message is ahead of another one in their order."""
    return (len(one), one) < (len(other), other)
