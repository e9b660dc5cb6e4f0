"""Views: what messages see of the states of a machine, rows of whole numbers, one for each state.

Worths at the states give 0 to all messages exactly if they add up to 0 along each view.
"""

from math import gcd

from textworths.joins import backwards
from textworths.numbers import content_of
from textworths.spaces import PrimeSpace, Space
from textworths.steps import led_back

# The greatest prime below 2 to the power of 30.
PRIME = 1073741789
# With more states whole numbers grow so long that a great prime is asked ahead of them.
MOST_WHOLE = 8
# With more states most roads are few: there rows are told by the states at which they are not 0.
MOST_QUICK = 40
MOST_BITS = 60


def views(steps):
    """Returns views that tell apart all that some message tells apart."""
    found = parting_views(steps)
    if found is None:
        return [[1 if at == state else 0 for at in range(steps.size)] for state in range(steps.size)]
    return found


def parting_views(steps):
    """Returns what `views` does, but None if messages tell all states apart."""
    if steps.size <= MOST_QUICK:
        return None if is_seen_apart(steps) else whole_views(steps)
    coming_of = _coming_of(steps)
    quick = PrimeSpace()
    _fill(quick, steps.size, _last_of(steps), coming_of)
    return None if len(quick) == steps.size else _proved_views(steps, quick, coming_of)


def is_seen_apart(steps):
    """Tells whether a prime shows that messages tell all states apart; if not, they still may."""
    roads_of = [_by_prime(told) for told in list(steps.of_sign.values())]
    waiting = [[above % PRIME for above in steps.last[1]]]
    kept = []
    at = 0
    while at < len(waiting) and len(kept) < steps.size:
        left = waiting[at]
        for lead, pivot, row in kept:
            times = left[lead]
            if times != 0:
                left = [(pivot * entry - times * taken) % PRIME for entry, taken in zip(left, row)]
        if any(left):
            lead = _lead(left)
            kept.append((lead, left[lead], left))
            waiting.extend([[entry % PRIME for entry in led_back(left, roads)] for roads in roads_of])
        at += 1
    return len(kept) == steps.size


def whole_views(steps):
    """Returns what `views` does, by whole numbers alone."""
    if steps.size <= MOST_WHOLE:
        return _few_views(steps)
    coming_of = _coming_of(steps)
    quick = PrimeSpace()
    _fill(quick, steps.size, _last_of(steps), coming_of)
    return _proved_views(steps, quick, coming_of)


def seen(row, seen_by):
    """Returns what views see of whole numbers at the states."""
    return [sum([entry * above for entry, above in zip(row, view)]) for view in seen_by]


def _by_prime(told):
    """Returns roads whose numbers are told but for multiples of the prime if they may be long."""
    below, roads = told
    if below.bit_length() <= MOST_BITS:
        return roads
    return [[(goal, above % PRIME) for goal, above in leaving] for leaving in roads]


def _few_views(steps):
    """Returns the views of a machine with few states."""
    roads_of = [roads for _, roads in list(steps.of_sign.values())]
    waiting = [steps.last[1]]
    kept = []
    at = 0
    while at < len(waiting) and len(kept) < steps.size:
        left = waiting[at]
        for lead, pivot, row in kept:
            if left[lead] != 0:
                common = gcd(pivot, left[lead])
                factor, times = pivot // common, left[lead] // common
                left = [factor * entry - times * taken for entry, taken in zip(left, row)]
        if any(left):
            left = _shortest(left)
            lead = _lead(left)
            kept.append((lead, left[lead], left))
            waiting.extend([led_back(left, roads) for roads in roads_of])
        at += 1
    return [row for _, _, row in kept]


def _shortest(row):
    """Returns whole numbers divided by all that they have in common."""
    common = content_of(row)
    return row if common == 1 else [entry // common for entry in row]


def _lead(row):
    """Returns the first place at which a row is not 0."""
    at = 0
    while row[at] == 0:
        at += 1
    return at


def _proved_views(steps, quick, coming_of):
    """Returns the views, of which at least so many are free as a prime shows."""
    # Rows that are as many are all of them if nothing leads out of them.
    last = _last_of(steps)
    space = Space()
    for row in quick.guesses():
        space.take(row)
    if not _is_closed(space, last, coming_of):
        space = Space()
        _fill(space, steps.size, last, coming_of)
    return [[row.get(state, 0) for state in range(steps.size)] for row in space.rows()]


def _last_of(steps):
    """Returns the view of the empty message, by the states at which it is not 0."""
    return {state: above for state, above in enumerate(steps.last[1]) if above != 0}


def _coming_of(steps):
    """Returns, for each sign, the roads by the states to which they lead."""
    return [roads for _, roads in list(backwards(steps).of_sign.values())]


def _fill(space, size, last, coming_of):
    """Fills a space of rows over so many states with the views of all messages, from that of the empty one on."""
    waiting = [last]
    at = 0
    while at < len(waiting) and len(space) < size:
        left = space.left_of(waiting[at])
        if left != {}:
            space.take(left)
            waiting.extend([_some_led_back(left, coming) for coming in coming_of])
        at += 1


def _is_closed(space, last, coming_of):
    """Tells whether the views of all messages are in a space."""
    inner = [_some_led_back(row, coming) for row in space.rows() for coming in coming_of]
    return all([space.left_of(view) == {} for view in [last] + inner])


def _some_led_back(view, coming):
    """Returns what a view sees from ahead of a sign, both told by the states at which they are not 0."""
    ahead = {}
    for goal, entry in view.items():
        for state, above in coming[goal]:
            ahead[state] = ahead.get(state, 0) + above * entry
    return {state: entry for state, entry in ahead.items() if entry != 0}
