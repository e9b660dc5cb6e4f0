"""Machines: states, roads between them, and the worths that they give to messages."""

from textworths.errors import InvalidMachine
from textworths.numbers import check_numbers, product
from textworths.signs import check_message, check_sign, check_signs
from textworths.steps import steps_by


class Machine:
    """A machine, which never changes; called with a message, it gives its worth."""

    def __init__(self, signs, begin, roads, end):
        check_signs(signs)
        check_numbers(begin)
        check_numbers([road[3] for road in roads])
        check_numbers(end)
        for road in roads:
            _check_road(signs, len(begin), road)
        if len(begin) != len(end):
            raise InvalidMachine(list(end))
        self._signs = signs
        self._begin = list(begin)
        self._roads = list(roads)
        self._end = list(end)
        self.steps = steps_by(signs, begin, roads, end)

    @property
    def signs(self):
        """The signs, as passed."""
        return self._signs

    @property
    def begin(self):
        """The numbers with which the states begin, in a new list."""
        return list(self._begin)

    @property
    def roads(self):
        """The roads, as passed, in a new list."""
        return list(self._roads)

    @property
    def end(self):
        """The numbers with which the states end, in a new list."""
        return list(self._end)

    def __call__(self, message):
        """Returns the worth of a message, the sum of those of its courses."""
        check_message(self._signs, message)
        return self.steps.worth(message)

    def courses(self, message):
        """Returns the ascending list of the courses (states, worth) of a message."""
        check_message(self._signs, message)
        passable = _passable(len(self._begin), self._roads, message)
        found = [([state], worth) for state, worth in enumerate(self._begin) if passable[0][state]]
        for at, sign in enumerate(message):
            roads = [road for road in self._roads if road[1] == sign and passable[at + 1][road[2]]]
            found = _longer(found, roads)
        return sorted([(states, product(worth, self._end[states[-1]])) for states, worth in found])

    def __len__(self):
        return len(self._begin)

    def __eq__(self, other):
        return (isinstance(other, Machine) and self._signs == other._signs
                and self._begin == other._begin and self._end == other._end
                and sorted(self._roads) == sorted(other._roads))


def _check_road(signs, size, road):
    """Raises an error if a road has a state or a sign that there is not."""
    if not 0 <= road[0] < size:
        raise InvalidMachine(road)
    check_sign(signs, road[1])
    if not 0 <= road[2] < size:
        raise InvalidMachine(road)


def _passable(size, roads, message):
    """Returns, for each place of a message, which states have a course for its rest.

    Courses that could not be ended may be far more than those that can.
    """
    behind = [True] * size
    rows = [behind]
    for sign in message[::-1]:
        ahead = [False] * size
        for road in roads:
            if road[1] == sign and behind[road[2]]:
                ahead[road[0]] = True
        rows.append(ahead)
        behind = ahead
    return rows[::-1]


def _longer(found, roads):
    """Returns the beginnings of courses with one of the roads more."""
    leaving = {}
    for road in roads:
        leaving.setdefault(road[0], []).append(road)
    return [(states + [road[2]], product(worth, road[3]))
            for states, worth in found for road in leaving.get(states[-1], [])]
