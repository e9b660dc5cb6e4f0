"""What the tests measure by: the worths of machines, reckoned in the plainest way."""

from fractions import Fraction
from itertools import product as rows_of


def told(pair):
    """The fraction of a number."""
    return Fraction(pair[0], pair[1])


def pair_of(fraction):
    """The number of a fraction."""
    return (fraction.numerator, fraction.denominator)


def courses_of(begin, roads, end, message):
    """All courses of a message: every row of states, and every choice of roads."""
    found = []
    for states in rows_of(range(len(begin)), repeat=len(message) + 1):
        choices = [
            [told(road[3]) for road in roads if road[:3] == (states[at], sign, states[at + 1])]
            for at, sign in enumerate(message)
        ]
        for taken in rows_of(*choices):
            worth = told(begin[states[0]]) * told(end[states[-1]])
            for factor in taken:
                worth *= factor
            found.append((list(states), pair_of(worth)))
    return sorted(found)


def worth_of(begin, roads, end, message):
    """The worth of a message, one sign after the other."""
    row = [told(pair) for pair in begin]
    for sign in message:
        behind = [Fraction(0)] * len(row)
        for state, of_road, goal, pair in roads:
            if of_road == sign:
                behind[goal] += row[state] * told(pair)
        row = behind
    return pair_of(sum((a * told(b) for a, b in zip(row, end)), Fraction(0)))


def messages_to(signs, length):
    """All messages of at most so many signs, in their order."""
    return ["".join(row) for size in range(length + 1) for row in rows_of(signs, repeat=size)]


def some_number(source, digits):
    """A number whose integers have at most so many digits."""
    most = 10 ** digits - 1
    return pair_of(Fraction(source.randint(-most, most), source.randint(1, most)))


def some_parts(source, signs, size, many, digits=1):
    """The begin, the roads and the end of a machine."""
    def numbers():
        return [some_number(source, digits) for _ in range(size)]

    roads = [
        (source.randrange(size), source.choice(signs), source.randrange(size), some_number(source, digits))
        for _ in range(many if size else 0)
    ]
    return numbers(), roads, numbers()


def worths_of(machine_parts):
    """The worths of a machine as a function from messages to fractions, which keeps what it found."""
    begin, roads, end = machine_parts
    return kept(lambda message: told(worth_of(begin, roads, end, message)))


def kept(worth):
    """The same function, which finds each value once."""
    found = {}

    def asked(message):
        if message not in found:
            found[message] = worth(message)
        return found[message]

    return asked


def sum_of(rows, row):
    """The fractions with which free rows add up to a row, None if there are none."""
    many = len(rows)
    lines = [[each[at] for each in rows] + [row[at]] for at in range(len(row))]
    for column in range(many):
        pivot = next(line for line in lines[column:] if line[column])
        lines.remove(pivot)
        pivot = [entry / pivot[column] for entry in pivot]
        lines = [
            [entry - line[column] * by for entry, by in zip(line, pivot)] if line[column] else line
            for line in lines
        ]
        lines.insert(column, pivot)
    if any(line[many] for line in lines[many:]):
        return None
    return [line[many] for line in lines[:many]]


def form_by(signs, size, worth):
    """Heads, table and worths of a tariff of at most so many heads, from its worths alone."""
    behind = messages_to(signs, max(size - 1, 0))
    heads, rows, found = [], [], {}
    waiting = [""]
    while waiting:
        message = waiting.pop(0)
        row = [worth(message + end) for end in behind]
        found[message] = sum_of(rows, row)
        if found[message] is None:
            heads.append(message)
            rows.append(row)
            waiting += [message + sign for sign in signs]

    def line(message):
        if found[message] is None:
            return [(int(head == message), 1) for head in heads]
        numbers = [pair_of(entry) for entry in found[message]]
        return numbers + [(0, 1)] * (len(heads) - len(numbers))

    table = [[line(head + sign) for sign in signs] for head in heads]
    return heads, table, [pair_of(worth(head)) for head in heads]


def form_told(tariff):
    """The form of a tariff as it tells it itself."""
    return tariff.heads, tariff.table, tariff.worths
