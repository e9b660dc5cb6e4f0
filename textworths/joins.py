"""Joins: parts (begin, roads, end) of machines, put together from the parts of others."""

from textworths.numbers import product


def beside(one, other):
    """Returns parts that give the sum of the worths: the states of the one, then of the other."""
    size = len(one[0])
    return one[0] + other[0], one[1] + shifted(other[1], size), one[2] + other[2]


def shifted(roads, by):
    """Returns roads between states that are counted from another number on."""
    return [(state + by, sign, goal + by, entry) for state, sign, goal, entry in roads]


def multiplied(parts, factor):
    """Returns parts that give a number times the worths."""
    return parts[0], parts[1], [product(entry, factor) for entry in parts[2]]


def crossed(one, other):
    """Returns parts that give the product of the worths, with a state for each pair of states."""
    size = len(other[0])
    roads = [(state * size + state_2, sign, goal * size + goal_2, product(entry, entry_2))
             for state, sign, goal, entry in one[1]
             for state_2, sign_2, goal_2, entry_2 in other[1] if sign == sign_2]
    return pairs(one[0], other[0]), roads, pairs(one[2], other[2])


def pairs(one, other):
    """Returns the products of each number of a list with each one of another list."""
    return [product(entry, entry_2) for entry in one for entry_2 in other]


def kept_to(parts, signs):
    """Returns parts with the roads of some signs alone."""
    return parts[0], [road for road in parts[1] if road[1] in signs], parts[2]


def along(parts):
    """Returns parts over the one sign `a` that give each length the sum of the worths of its messages."""
    return parts[0], [(state, "a", goal, entry) for state, _, goal, entry in parts[1]], parts[2]
