"""What the tests measure by: the worths of machines, reckoned in the plainest way."""

from fractions import Fraction
from itertools import product as rows_of


def told(pair):
    """The fraction of a number."""
    return Fraction(pair[0], pair[1])


def pair_of(fraction):
    """The number of a fraction."""
    return (fraction.numerator, fraction.denominator)


def courses_of(begin, roads, end, message):
    """All courses of a message: every row of states, and every choice of roads."""
    found = []
    for states in rows_of(range(len(begin)), repeat=len(message) + 1):
        choices = [
            [told(road[3]) for road in roads if road[:3] == (states[at], sign, states[at + 1])]
            for at, sign in enumerate(message)
        ]
        for taken in rows_of(*choices):
            worth = told(begin[states[0]]) * told(end[states[-1]])
            for factor in taken:
                worth *= factor
            found.append((list(states), pair_of(worth)))
    return sorted(found)


def worth_of(begin, roads, end, message):
    """The worth of a message, one sign after the other."""
    row = [told(pair) for pair in begin]
    for sign in message:
        behind = [Fraction(0)] * len(row)
        for state, of_road, goal, pair in roads:
            if of_road == sign:
                behind[goal] += row[state] * told(pair)
        row = behind
    return pair_of(sum((a * told(b) for a, b in zip(row, end)), Fraction(0)))


def messages_to(signs, length):
    """All messages of at most so many signs, in their order."""
    return ["".join(row) for size in range(length + 1) for row in rows_of(signs, repeat=size)]


def some_number(source, digits):
    """A number whose integers have at most so many digits."""
    most = 10 ** digits - 1
    return pair_of(Fraction(source.randint(-most, most), source.randint(1, most)))


def some_parts(source, signs, size, many, digits=1):
    """The begin, the roads and the end of a machine."""
    def numbers():
        return [some_number(source, digits) for _ in range(size)]

    roads = [
        (source.randrange(size), source.choice(signs), source.randrange(size), some_number(source, digits))
        for _ in range(many if size else 0)
    ]
    return numbers(), roads, numbers()
