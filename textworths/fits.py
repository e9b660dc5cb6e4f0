"""Fits: which messages a machine without numbers below 0 gives any worth at all."""


class Fits:
    """Which states of a machine are reached, as the bits of an integer."""

    def __init__(self, signs, parts):
        begin, roads, end = parts
        self.first = _bits(begin)
        self._ends = _bits(end)
        self._goals = {sign: _goals(roads, sign, len(begin)) for sign in signs}

    def moved(self, reached, sign):
        """Returns the states that are reached with one sign more."""
        behind = 0
        for state, goals in enumerate(self._goals[sign]):
            if reached >> state & 1 == 1:
                behind = behind | goals
        return behind

    def is_fit(self, reached):
        """Tells whether a message that reaches these states has a worth."""
        return reached & self._ends != 0


def first_fit_of_one(signs, one, other):
    """Returns the first message to which just one of two machines gives any worth."""
    fits, fits_2 = Fits(signs, one), Fits(signs, other)
    waiting = [("", fits.first, fits_2.first)]
    met = {(fits.first, fits_2.first): True}
    at = 0
    while at < len(waiting):
        message, reached, reached_2 = waiting[at]
        if fits.is_fit(reached) != fits_2.is_fit(reached_2):
            return message
        for sign in signs:
            pair = (fits.moved(reached, sign), fits_2.moved(reached_2, sign))
            if pair not in met:
                met[pair] = True
                waiting.append((message + sign, pair[0], pair[1]))
        at += 1
    return None


def _bits(numbers):
    """Returns the bits of the places of a list at which a number is not 0."""
    return sum([1 << at for at, number in enumerate(numbers) if number[0] != 0])


def _goals(roads, sign, size):
    """Returns, for each state, the bits of the states to which the roads of a sign lead from it."""
    goals = [0] * size
    for state, of_road, goal, _ in roads:
        if of_road == sign:
            goals[state] = goals[state] | 1 << goal
    return goals
