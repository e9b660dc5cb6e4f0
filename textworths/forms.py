"""Forms: the heads, the table and the worths that tell a tariff."""

from textworths.numbers import is_pair
from textworths.spaces import Free, PrimeSpace, Space


def views(steps):
    """Returns rows over the states that tell apart all that some message tells apart.

    Worths at the states give 0 to all messages exactly if they add up to 0 along each view.
    """
    size = steps.size
    quick = PrimeSpace()
    _fill(quick, steps)
    if len(quick) == size:
        return [{state: 1} for state in range(size)]
    # At least so many views are free: rows as many are all of them if nothing leads out of them.
    guessed = Space()
    for row in quick.guesses():
        guessed.take(row)
    if _is_closed(guessed, steps):
        return guessed.rows()
    space = Space()
    _fill(space, steps)
    return space.rows()


def form_of(signs, steps):
    """Returns (heads, table, worths) of the tariff with some steps."""
    seen_by = views(steps)
    free = Free(len(seen_by))
    heads, worths, told = [], [], {}
    below, row = steps.first
    waiting = [("", below, row)]
    at = 0
    while at < len(waiting):
        message, below, row = waiting[at]
        numbers = free.told(below, seen(row, seen_by))
        if numbers is None:
            heads.append(message)
            worths.append(steps.worth_at(below, row))
            # Only what is behind a head can be a head: so those that wait stay in their order.
            waiting.extend([_waiting_behind(steps, message, below, row, sign) for sign in signs])
        else:
            told[message] = numbers
        at += 1
    return heads, table_of(signs, heads, told), worths


def table_of(signs, heads, told):
    """Returns the table of heads, and of the numbers that tell the rests behind other messages by them."""
    return [[_told_by_all(heads, told, head + sign) for sign in signs] for head in heads]


def seen(row, seen_by):
    """Returns the row of what views see of whole numbers at the states."""
    sums = [sum([entry * row[state] for state, entry in view.items()]) for view in seen_by]
    return {at: entry for at, entry in enumerate(sums) if entry != 0}


def first_told(signs, steps):
    """Returns the first message whose worth is not 0, None if there is none."""
    space = Space()
    waiting = [("", steps.first[1])]
    at = 0
    while at < len(waiting):
        message, row = waiting[at]
        left = space.left_of({state: above for state, above in enumerate(row) if above != 0})
        # What was taken off has the worth 0, so what is left tells whether this one has.
        whole = [left.get(state, 0) for state in range(steps.size)]
        if steps.worth_at(1, whole) != (0, 1):
            return message
        if left != {}:
            space.take(left)
            waiting.extend([(message + sign, steps.moved(1, whole, sign)[1]) for sign in signs])
        at += 1
    return None


def parts_of_form(signs, table, worths):
    """Returns (begin, roads, end) of the machine with one state for each head."""
    begin = [(1, 1) if at == 0 else (0, 1) for at in range(len(worths))]
    roads = [(state, sign, goal, entry) for state, rows in enumerate(table) for sign, row in zip(signs, rows)
             for goal, entry in enumerate(row) if entry[0] != 0]
    return begin, roads, list(worths)


def has_shape(signs, heads, table, worths):
    """Tells whether heads, table and worths are lists as long and as deep as those of a form."""
    many = len(heads)
    return (all([isinstance(head, str) for head in heads]) and _are_numbers(worths, many)
            and isinstance(table, list) and len(table) == many
            and all([_are_rows(rows, len(signs), many) for rows in table]))


def is_form(signs, heads, table, steps):
    """Tells whether heads and a table of the right shape, with the steps by them, are a form."""
    known = {head: True for head in heads}
    if heads != [] and heads[0] != "":
        return False
    for last, head in zip(heads, heads[1:]):
        if not _is_next_head(signs, known, last, head):
            return False
    for head, rows in zip(heads, table):
        for sign, row in zip(signs, rows):
            if not _is_row(known, heads, head + sign, row):
                return False
    # Then heads are told by no messages ahead of them exactly if they are free of each other.
    return len(views(steps)) == len(heads)


def _fill(space, steps):
    """Fills a space with the views of all messages."""
    roads_to = _roads_to(steps)
    waiting = [_last_view(steps)]
    at = 0
    while at < len(waiting) and len(space) < steps.size:
        left = space.left_of(waiting[at])
        if left != {}:
            space.take(left)
            waiting.extend([_led_back(left, roads) for roads in roads_to])
        at += 1


def _is_closed(space, steps):
    """Tells whether the views of all messages are in a space."""
    roads_to = _roads_to(steps)
    inner = [_led_back(row, roads) for row in space.rows() for roads in roads_to]
    return all([space.left_of(view) == {} for view in [_last_view(steps)] + inner])


def _last_view(steps):
    """Returns the view of the empty message."""
    return {state: above for state, above in enumerate(steps.last[1]) if above != 0}


def _roads_to(steps):
    """Returns, for each sign, the roads by the states to which they lead."""
    return [_roads_by_goal(roads) for _, roads in list(steps.of_sign.values())]


def _roads_by_goal(roads):
    """Returns the roads to each state, as tuples (state, above)."""
    found = {}
    for state, goal, above in roads:
        found.setdefault(goal, []).append((state, above))
    return found


def _led_back(view, roads_to):
    """Returns what a view sees from ahead of a sign."""
    ahead = {}
    for goal, entry in view.items():
        for state, above in roads_to.get(goal, []):
            ahead[state] = ahead.get(state, 0) + above * entry
    return {state: entry for state, entry in ahead.items() if entry != 0}


def _waiting_behind(steps, message, below, row, sign):
    """Returns (message, below, row) of a message with one sign more."""
    below, row = steps.moved(below, row, sign)
    return message + sign, below, row


def _told_by_all(heads, told, message):
    """Returns the numbers, one for each head, that tell the rest behind a message."""
    if message in told:
        numbers = told[message]
        return numbers + [(0, 1)] * (len(heads) - len(numbers))
    return [(1, 1) if head == message else (0, 1) for head in heads]


def _are_rows(rows, count, many):
    """Tells whether something is a list of so many lists of so many numbers."""
    return isinstance(rows, list) and len(rows) == count and all([_are_numbers(row, many) for row in rows])


def _are_numbers(row, many):
    """Tells whether something is a list of so many tuples of two integers."""
    return isinstance(row, list) and len(row) == many and all([is_pair(entry) for entry in row])


def _is_next_head(signs, known, last, head):
    """Tells whether a head may stand behind another one: its beginnings are heads, too."""
    return _is_ahead(last, head) and head[-1] in signs and head[:-1] in known


def _is_row(known, heads, message, row):
    """Tells whether a row may tell a message: a head by itself, all others by heads ahead of them."""
    if message in known:
        return row == [(1, 1) if head == message else (0, 1) for head in heads]
    return all([entry[0] == 0 or _is_ahead(head, message) for head, entry in zip(heads, row)])


def _is_ahead(one, other):
    """Tells whether a message is ahead of another one in their order."""
    return (len(one), one) < (len(other), other)
