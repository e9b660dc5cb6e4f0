"""Numbers: fractions as tuples (above, below) in lowest terms, below at least 1."""

from math import gcd, lcm

from textworths.errors import InvalidNumber


def number(above, below):
    """Returns the number of two integers, the second one not 0."""
    if below == 0:
        raise InvalidNumber(below)
    common = gcd(above, below)
    if below < 0:
        common = -common
    return (above // common, below // common)


def added(one, other):
    """Returns the sum of two numbers."""
    check_numbers([one, other])
    return number(one[0] * other[1] + other[0] * one[1], one[1] * other[1])


def product(one, other):
    """Returns the product of two numbers."""
    check_numbers([one, other])
    return number(one[0] * other[0], one[1] * other[1])


def quotient(one, other):
    """Returns the quotient of two numbers, the second one not (0, 1)."""
    check_numbers([one, other])
    if other[0] == 0:
        raise InvalidNumber(other)
    return number(one[0] * other[1], one[1] * other[0])


def power(one, times):
    """Returns a number multiplied so often with itself."""
    check_number(one)
    if times < 0:
        raise InvalidNumber(times)
    above, below = 1, 1
    for _ in range(times):
        above, below = above * one[0], below * one[1]
    return (above, below)


def is_number(pair):
    """Tells whether a tuple of two integers is a number."""
    above, below = pair
    return below >= 1 and gcd(above, below) == 1


def check_number(pair):
    """Raises an error if a tuple of two integers is no number."""
    if not is_number(pair):
        raise InvalidNumber(pair)


def check_numbers(pairs):
    """Raises an error for the first tuple of a list that is no number."""
    for pair in pairs:
        check_number(pair)


def check_numbers_within(things):
    """Raises an error for the first tuple in lists of any depth that is no number."""
    for thing in things:
        if isinstance(thing, list):
            check_numbers_within(thing)
        elif is_pair(thing):
            check_number(thing)


def is_pair(thing):
    """Tells whether something is a tuple of two integers."""
    return (isinstance(thing, tuple) and len(thing) == 2
            and isinstance(thing[0], int) and isinstance(thing[1], int))


def common_below(pairs):
    """Returns (below, aboves): the numbers of a list over one integer below."""
    below = 1
    for pair in pairs:
        below = lcm(below, pair[1])
    return below, [pair[0] * (below // pair[1]) for pair in pairs]


def shortened(below, aboves):
    """Returns (below, aboves) divided by all that they have in common."""
    common = below
    for above in aboves:
        common = gcd(common, above)
        if common == 1:
            return below, aboves
    return below // common, [above // common for above in aboves]


def content_of(integers):
    """Returns the greatest integer that divides all of some integers, 0 if these all are 0."""
    common = 0
    for integer in integers:
        common = gcd(common, integer)
        if common == 1:
            return 1
    return common
