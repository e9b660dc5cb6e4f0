"""Joins: steps of machines, put together from the steps of others."""

from textworths.numbers import shortened
from textworths.steps import Steps, lcm_of, led_back, led_on, over_one_below


def beside(one, other):
    """Returns steps that give the sum of the worths: the states of the one, then of the other."""
    found = {}
    for sign, told in one.of_sign.items():
        below, parts = over_one_below([told, other.of_sign[sign]])
        found[sign] = (below, parts[0] + _shifted(parts[1], one.size))
    return Steps(_together(one.first, other.first), _together(one.last, other.last), found)


def multiplied(one, factor):
    """Returns steps that give a number times the worths."""
    return Steps(one.first, _times(one.last, factor), one.of_sign)


def crossed(one, other):
    """Returns steps that give the product of the worths, with a state for each pair of states."""
    found = {}
    for sign, (below, roads) in one.of_sign.items():
        below_2, roads_2 = other.of_sign[sign]
        found[sign] = (below * below_2, [_road_pairs(leaving, leaving_2, other.size)
                                         for leaving in roads for leaving_2 in roads_2])
    return Steps(_pairs(one.first, other.first), _pairs(one.last, other.last), found)


def shuffling(one, other):
    """Returns steps with a state for each pair of states, of which a sign moves just one."""
    size = other.size
    found = {}
    for sign, told in one.of_sign.items():
        below, parts = over_one_below([told, other.of_sign[sign]])
        found[sign] = (below, [
            [(goal * size + at, above) for goal, above in leaving]
            + [(state * size + goal, above) for goal, above in leaving_2]
            for state, leaving in enumerate(parts[0]) for at, leaving_2 in enumerate(parts[1])])
    return Steps(_pairs(one.first, other.first), _pairs(one.last, other.last), found)


def following(one, other):
    """Returns steps that add up, over all cuts in two parts, the products of their worths."""
    factor, ends = one.last
    below_2, row_2 = other.first
    starts = [(one.size + at, above) for at, above in enumerate(row_2) if above != 0]
    found = {}
    for sign, (below, roads) in one.of_sign.items():
        # What ends in the one begins in the other one: with the sign that ends it, or at once.
        bridges = [[(goal, end * above) for goal, above in starts] if end != 0 else []
                   for end in led_back(ends, roads)]
        inner = _all_roads([(below, roads), (below * factor * below_2, bridges)])
        below_3, parts = over_one_below([inner, other.of_sign[sign]])
        found[sign] = (below_3, parts[0] + _shifted(parts[1], one.size))
    entered = one.worth("")
    first = _together(one.first, _times(other.first, entered))
    return Steps(first, (other.last[0], [0] * one.size + other.last[1]), found)


def repeated(one):
    """Returns steps that add up, over all cuts in parts, the products of their worths."""
    # One state more stands between the parts: there a message begins, and ends.
    gate = one.size
    factor, ends = one.last
    below_1, row = one.first
    found = {}
    for sign, (below, roads) in one.of_sign.items():
        starts = _added_up(roads, row)
        below_2, inner = _all_roads([(below, roads + [[]]), (below * below_1, [[] for _ in roads] + [starts])])
        closing = [[(gate, end)] if end != 0 else [] for end in led_back(ends + [0], inner)]
        found[sign] = _all_roads([(below_2, inner), (below_2 * factor, closing)])
    stands = (1, [0] * gate + [1])
    return Steps(stands, stands, found)


def undoing(one, other):
    """Returns steps that, put ahead of the other one, give the worths of the one."""
    above, below = other.worth("")
    # The worth is what the one gives, less all that shorter beginnings and a part of the other
    # one make up already, by the worth that the other one gives to the empty message.
    less = _times(other.last, (-1, 1))
    ends = _times(_together(one.last, less), (below, above) if above > 0 else (-below, -above))
    factor, lasts = ends
    below_1, row = other.first
    found = {}
    for sign, (below_2, roads) in other.of_sign.items():
        entering = [(one.size + goal, entry) for goal, entry in _added_up(roads, row)]
        bridges = [[(goal, last * entry) for goal, entry in entering] if last != 0 else [] for last in lasts]
        below_3, parts = over_one_below([one.of_sign[sign], (below_2, roads)])
        inner = parts[0] + _shifted(parts[1], one.size)
        found[sign] = _all_roads([(below_3, inner), (below_2 * below_1 * factor, bridges)])
    return Steps(_with_more(one.first, [0] * other.size), ends, found)


def backwards(one):
    """Returns steps that give the worth of the message read from its end."""
    found = {}
    for sign, (below, roads) in one.of_sign.items():
        coming = [[] for _ in roads]
        for state, leaving in enumerate(roads):
            for goal, above in leaving:
                coming[goal].append((state, above))
        found[sign] = (below, coming)
    return Steps(one.last, one.first, found)


def kept_to(one, signs):
    """Returns steps with the roads of some signs alone."""
    nowhere = [[] for _ in range(one.size)]
    found = {sign: told if sign in signs else (1, nowhere) for sign, told in one.of_sign.items()}
    return Steps(one.first, one.last, found)


def along(one):
    """Returns steps over the one sign `a` that give each length the sum of the worths of its messages."""
    below, roads = _all_roads(list(one.of_sign.values()))
    return Steps(one.first, one.last, {"a": (below, [_merged(leaving) for leaving in roads])})


def by_words(one, signs, words):
    """Returns steps over signs, each of which leads where its word does."""
    found = {}
    for sign, word in zip(signs, words):
        rows = [_row_behind(one, state, word) for state in range(one.size)]
        below = lcm_of([factor for factor, _ in rows])
        found[sign] = (below, [[(goal, above * (below // factor)) for goal, above in enumerate(row) if above != 0]
                               for factor, row in rows])
    return Steps(one.first, one.last, found)


def spelling(one, signs, words):
    """Returns steps over signs that add up the worths of the messages of which this is the text."""
    size = one.size
    # For each beginning of a word there are states of their own, which wait for its end.
    nodes = {"": 0}
    for word in words:
        for cut in range(1, len(word)):
            nodes.setdefault(word[:cut], len(nodes) * size)
    waiting = [0] * (size * len(nodes) - size)
    found = {}
    for letter in signs:
        told = [(1, _letter_roads(nodes, size, letter))]
        for (below, roads), word in zip(list(one.of_sign.values()), words):
            if word[-1] == letter:
                ahead = [[] for _ in range(nodes[word[:-1]])]
                told.append((below, ahead + roads + [[] for _ in range(len(waiting) - len(ahead))]))
        found[letter] = _all_roads(told)
    return Steps(_with_more(one.first, waiting), _with_more(one.last, waiting), found)


def _row_behind(one, state, word):
    """Returns the worths at the states behind a word, as (below, row), if a message begins at one state."""
    below, row = one.moved(1, [1 if at == state else 0 for at in range(one.size)], word)
    return shortened(below, row)


def _letter_roads(nodes, size, letter):
    """Returns the roads of a letter from the beginnings of words to those that are longer by it."""
    roads = []
    for begun in nodes:
        at = nodes.get(begun + letter, 0)
        roads.extend([[(at + state, 1)] if at > 0 else [] for state in range(size)])
    return roads


def _all_roads(told):
    """Returns (below, roads) of all roads of some (below, roads)."""
    below, parts = over_one_below(told)
    roads = parts[0]
    for part in parts[1:]:
        roads = [leaving + more for leaving, more in zip(roads, part)]
    return below, roads


def _shifted(roads, by):
    """Returns roads to states that are counted from another number on."""
    return [[(goal + by, above) for goal, above in leaving] for leaving in roads]


def _road_pairs(leaving, leaving_2, size):
    """Returns the roads from a pair of states, from those from each of both."""
    return [(goal * size + goal_2, above * above_2) for goal, above in leaving for goal_2, above_2 in leaving_2]


def _merged(leaving):
    """Returns roads from a state with one to each goal."""
    found = {}
    for goal, above in leaving:
        found[goal] = found.get(goal, 0) + above
    return [(goal, above) for goal, above in found.items() if above != 0]


def _added_up(roads, row):
    """Returns the roads from a state that is all states, so many times each."""
    return [(goal, above) for goal, above in enumerate(led_on(row, roads)) if above != 0]


def _together(one, other):
    """Returns the numbers of both lists, told by (below, aboves)."""
    below = lcm_of([one[0], other[0]])
    factor, factor_2 = below // one[0], below // other[0]
    return below, [above * factor for above in one[1]] + [above * factor_2 for above in other[1]]


def _times(told, number):
    """Returns so many times the numbers that are told by (below, aboves)."""
    return shortened(told[0] * number[1], [above * number[0] for above in told[1]])


def _pairs(one, other):
    """Returns the products of each number of a list with each one of another list."""
    return one[0] * other[0], [above * above_2 for above in one[1] for above_2 in other[1]]


def _with_more(told, more):
    """Returns (below, aboves) with more whole numbers behind them, all 0."""
    return told[0], told[1] + more
