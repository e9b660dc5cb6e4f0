"""Steps: the roads of a machine as whole numbers, sign by sign."""

from math import lcm

from textworths.numbers import common_below, number, shortened

LEAST_BITS = 1000


class Steps:
    """What leads the worths at the states from sign to sign; it never changes.

    Such worths are told by (below, row): whole numbers, one for each state, over one below. So are
    `first`, those of the empty message, and `last`, what the states add up to in the end. The roads
    of a sign are (below, roads), for each state the tuples (goal, above) of its roads.
    """

    def __init__(self, first, last, of_sign):
        # Whole numbers over one below for each sign spare a division at every road.
        self.size = len(first[1])
        self.first = first
        self.last = last
        self.of_sign = of_sign

    def moved(self, below, row, message):
        """Returns the worths at the states behind a message, from those ahead of it."""
        limit = LEAST_BITS
        for sign in message:
            factor, roads = self.of_sign[sign]
            below, row = below * factor, led_on(row, roads)
            # Shortening is dear: it waits until the integers are twice as long.
            if below.bit_length() > limit:
                below, row = shortened(below, row)
                limit = LEAST_BITS + 2 * below.bit_length()
        return below, row

    def worth_at(self, below, row):
        """Returns the worth of a message that ends with these worths at the states."""
        factor, ends = self.last
        return number(sum([above * end for above, end in zip(row, ends)]), below * factor)

    def worth(self, message):
        """Returns the worth of a message."""
        below, row = self.first
        below, row = self.moved(below, row, message)
        return self.worth_at(below, row)

    def ends_ahead_of(self, message):
        """Returns what the states add up to in the end if a message still comes."""
        below, ends = self.last
        for sign in message[::-1]:
            factor, roads = self.of_sign[sign]
            below, ends = shortened(below * factor, led_back(ends, roads))
        return below, ends


def steps_by(signs, begin, roads, end):
    """Returns the steps of a machine with states and roads that are told by numbers."""
    of_sign = {sign: _whole_roads(roads, sign, len(begin)) for sign in signs}
    return Steps(common_below(begin), common_below(end), of_sign)


def led_on(row, roads):
    """Returns the worths at the states behind one sign more."""
    behind = [0] * len(row)
    for above, leaving in zip(row, roads):
        if above != 0:
            for goal, entry in leaving:
                behind[goal] += above * entry
    return behind


def led_back(ends, roads):
    """Returns what the states add up to in the end if one sign more comes ahead."""
    return [sum([entry * ends[goal] for goal, entry in leaving]) for leaving in roads]


def over_one_below(told):
    """Returns (below, list of roads): some (below, roads), over one below."""
    below = lcm_of([one[0] for one in told])
    return below, [enlarged(roads, below // factor) for factor, roads in told]


def enlarged(roads, factor):
    """Returns roads with so many times their whole numbers."""
    if factor == 1:
        return roads
    return [[(goal, above * factor) for goal, above in leaving] for leaving in roads]


def lcm_of(belows):
    """Returns the least integer that all of some integers divide."""
    found = 1
    for below in belows:
        if below != 1:
            found = lcm(found, below)
    return found


def _whole_roads(roads, sign, size):
    """Returns (below, roads by their states) of the roads of a sign."""
    taken = [road for road in roads if road[1] == sign]
    below, aboves = common_below([road[3] for road in taken])
    found = [[] for _ in range(size)]
    for road, above in zip(taken, aboves):
        if above != 0:
            found[road[0]].append((road[2], above))
    return below, found
