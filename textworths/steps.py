"""Steps: the roads of a machine as whole numbers, sign by sign."""

from textworths.numbers import common_below, number, shortened

LEAST_BITS = 1000


class Steps:
    """What leads the worths at the states from sign to sign; it never changes.

    Such worths are told by (below, row): whole numbers, one for each state, over one below.
    """

    def __init__(self, signs, begin, roads, end):
        # Whole numbers over one below for each sign spare a division at every road.
        self.size = len(begin)
        self.first = common_below(begin)
        self.last = common_below(end)
        self.of_sign = {sign: _whole_roads(roads, sign) for sign in signs}

    def moved(self, below, row, message):
        """Returns the worths at the states behind a message, from those ahead of it."""
        limit = LEAST_BITS
        for sign in message:
            factor, roads = self.of_sign[sign]
            below, row = below * factor, led_on(row, roads)
            # Shortening is dear: it waits until the integers are twice as long.
            if below.bit_length() > limit:
                below, row = shortened(below, row)
                limit = LEAST_BITS + 2 * below.bit_length()
        return below, row

    def worth_at(self, below, row):
        """Returns the worth of a message that ends with these worths at the states."""
        factor, ends = self.last
        return number(sum([above * end for above, end in zip(row, ends)]), below * factor)

    def worth(self, message):
        """Returns the worth of a message."""
        below, row = self.first
        below, row = self.moved(below, row, message)
        return self.worth_at(below, row)

    def numbers_behind(self, message):
        """Returns the numbers at the states behind a message."""
        below, row = self.first
        below, row = self.moved(below, row, message)
        return [number(above, below) for above in row]

    def numbers_from(self, state, message):
        """Returns the numbers at the states behind a message that begins with 1 at one state."""
        below, row = self.moved(1, self._only_at(state), message)
        return [number(above, below) for above in row]

    def worth_from(self, state, message):
        """Returns the worth of a message that begins with 1 at one state."""
        below, row = self.moved(1, self._only_at(state), message)
        return self.worth_at(below, row)

    def _only_at(self, state):
        return [1 if at == state else 0 for at in range(self.size)]


def _whole_roads(roads, sign):
    """Returns (below, list of (state, next, above)) of the roads of a sign."""
    taken = [road for road in roads if road[1] == sign]
    below, aboves = common_below([road[3] for road in taken])
    return below, [(road[0], road[2], above) for road, above in zip(taken, aboves)]


def led_on(row, roads):
    """Returns the worths at the states behind one sign more."""
    behind = [0] * len(row)
    for state, goal, above in roads:
        behind[goal] += row[state] * above
    return behind
