"""Positions: the machine of a pattern, with a state for each sign that stands in it."""

from textworths.numbers import added, product

ONE = (1, 1)
NONE = (0, 1)


class Positions:
    """The places of a pattern at which a sign is read, and the ways from one to the next."""

    def __init__(self, signs, pattern):
        self._signs = signs
        # State 0 stands ahead of the pattern; each other one reads one of the signs of its text.
        self._reads = [""]
        self._ways = []
        empty, begins, ends = self._walked(pattern)
        self._follow([(0, ONE)], begins)
        self._end = [empty] + [NONE] * (len(self._reads) - 1)
        for state, number in ends:
            self._end[state] = number

    def parts(self):
        """Returns (begin, roads, end) of the machine that gives the ways of the pattern."""
        begin = [ONE] + [NONE] * (len(self._reads) - 1)
        roads = [(state, sign, goal, number) for state, goal, number in self._ways for sign in self._reads[goal]]
        return begin, roads, list(self._end)

    def _walked(self, pattern):
        """Returns (empty, begins, ends): the ways of the empty message, and the positions, with
        their numbers, at which the messages of a pattern begin and end."""
        kind = pattern[0]
        if kind == "sign":
            return self._read(pattern[1])
        if kind == "any":
            return self._read(self._signs)
        if kind == "empty":
            return ONE, [], []
        if kind == "none":
            return NONE, [], []
        if kind == "many":
            return self._repeated(pattern[1])
        if kind == "weigh":
            empty, begins, ends = self._walked(pattern[2])
            return product(pattern[1], empty), _weighed(begins, pattern[1]), ends
        one = self._walked(pattern[1])
        other = self._walked(pattern[2])
        if kind == "or":
            return added(one[0], other[0]), one[1] + other[1], one[2] + other[2]
        self._follow(one[2], other[1])
        begins = one[1] + _weighed(other[1], one[0])
        return product(one[0], other[0]), begins, _weighed(one[2], other[0]) + other[2]

    def _read(self, text):
        """Returns what `_walked` wants of a position that reads one of the signs of a text."""
        state = len(self._reads)
        self._reads.append(text)
        return NONE, [(state, ONE)], [(state, ONE)]

    def _repeated(self, part):
        """Returns what `_walked` wants of a part any number of times."""
        _, begins, ends = self._walked(part)
        self._follow(ends, begins)
        return ONE, begins, ends

    def _follow(self, ends, begins):
        """Leads from each end to each begin."""
        for state, number in ends:
            for goal, number_2 in begins:
                self._ways.append((state, goal, product(number, number_2)))


def _weighed(marks, factor):
    """Returns positions with so many times their numbers, those with 0 left out."""
    if factor == NONE:
        return []
    return [(state, product(number, factor)) for state, number in marks]
