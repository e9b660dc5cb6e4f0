"""What the tests of patterns measure by: readings by all cuts, and patterns by chance."""

from fractions import Fraction

from plain import kept, told

ANY, EMPTY, NEVER = ("any",), ("empty",), ("none",)
NUMBERS = [(1, 2), (-1, 1), (2, 1), (0, 1), (-3, 2)]


def count(signs, pattern):
    """The ways of a pattern as a function of messages: the readings by all cuts."""
    kind = pattern[0]
    if kind == "sign":
        return lambda message: Fraction(int(message == pattern[1]))
    if kind == "any":
        return lambda message: Fraction(int(len(message) == 1))
    if kind == "empty":
        return lambda message: Fraction(int(message == ""))
    if kind == "none":
        return lambda message: Fraction(0)
    if kind == "weigh":
        inner = count(signs, pattern[2])
        return lambda message: told(pattern[1]) * inner(message)
    one = count(signs, pattern[1])
    if kind == "many":
        def repeated(message):
            if message == "":
                return Fraction(1)
            return sum((one(message[:at]) * found(message[at:]) for at in range(1, len(message) + 1)), Fraction(0))

        found = kept(repeated)
        return found
    other = count(signs, pattern[2])
    if kind == "or":
        return kept(lambda message: one(message) + other(message))
    return kept(lambda message: sum(
        (one(message[:at]) * other(message[at:]) for at in range(len(message) + 1)), Fraction(0)))


def within(pattern):
    return [part for part in pattern[1:] if isinstance(part, tuple) and part and isinstance(part[0], str)]


def endless(signs, pattern):
    """The first pattern within a "many" that has ways of the empty message, None if there is none."""
    for part in within(pattern):
        found = endless(signs, part)
        if found is not None:
            return found
    if pattern[0] == "many" and count(signs, pattern[1])("") != 0:
        return pattern[1]
    return None


def some_pattern(source, signs, parts, weighed=False):
    """A pattern of so many parts."""
    if parts == 1:
        return source.choice([("sign", source.choice(signs))] * 3 + [ANY, EMPTY, NEVER])
    if weighed and source.random() < 0.3:
        return ("weigh", source.choice(NUMBERS), some_pattern(source, signs, parts - 1, weighed))
    if parts == 2 or source.random() < 0.2:
        return ("many", some_pattern(source, signs, parts - 1, weighed))
    first = source.randint(1, parts - 2)
    return (source.choice(["then", "or"]), some_pattern(source, signs, first, weighed),
            some_pattern(source, signs, parts - 1 - first, weighed))


def right_pattern(source, signs, parts, weighed=False):
    while True:
        pattern = some_pattern(source, signs, parts, weighed)
        if endless(signs, pattern) is None:
            return pattern


def signs_read(pattern):
    return 1 if pattern[0] in ("sign", "any") else sum(signs_read(part) for part in within(pattern))
