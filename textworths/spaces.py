"""Spaces: all sums of multiples of some rows.

A row is a dict from columns, integers from 0 on, to whole numbers that are not 0.
"""

from math import gcd, lcm

from textworths.numbers import common_below, number

# 2 to the power of 127, less 1, and about its square root.
PRIME = 170141183460469231731687303715884105727
ROOT = 1 << 63


class Space:
    """A space of rows.

    Each of the rows that it is kept by has a lead, a column in which no other one of them
    stands, so that what is in the space is taken off a row in one pass.
    """

    def __init__(self):
        self._kept = {}

    def __len__(self):
        return len(self._kept)

    def rows(self):
        """Returns the rows that the space is kept by."""
        return list(self._kept.values())

    def left_of(self, row):
        """Returns a multiple of a row less a row of the space, without any lead."""
        leads = [column for column in row if column in self._kept]
        scale = 1
        for lead in leads:
            pivot = self._kept[lead][lead]
            scale = lcm(scale, pivot // gcd(pivot, row[lead]))
        left = {column: scale * entry for column, entry in row.items()}
        for lead in leads:
            taken = self._kept[lead]
            _take_off(left, taken, left[lead] // taken[lead])
        return _shortest(left)

    def take(self, row):
        """Puts into the space what `left_of` gave, with a column at least."""
        lead = min(list(row))
        for other in list(self._kept):
            kept = self._kept[other]
            if lead in kept:
                common = gcd(kept[lead], row[lead])
                factor, times = row[lead] // common, kept[lead] // common
                cleared = {column: factor * entry for column, entry in kept.items()}
                _take_off(cleared, row, times)
                self._kept[other] = _shortest(cleared)
        self._kept[lead] = row


class PrimeSpace:
    """A space of rows whose numbers are told but for multiples of a great prime.

    Rows that are free here are free as they are; of others nothing is known.
    """

    def __init__(self):
        self._kept = {}

    def __len__(self):
        return len(self._kept)

    def guesses(self):
        """Returns the rows that the space is kept by, told by the least numbers that they may be."""
        rows = []
        for kept in list(self._kept.values()):
            numbers = [_least_number(entry) for entry in list(kept.values())]
            _, aboves = common_below(numbers)
            rows.append({column: above for column, above in zip(list(kept), aboves)})
        return rows

    def left_of(self, row):
        """Returns a row less a row of the space, without any lead."""
        leads = [column for column in row if column in self._kept]
        left = {column: entry % PRIME for column, entry in row.items()}
        for lead in leads:
            _take_off(left, self._kept[lead], left[lead])
        rests = {column: entry % PRIME for column, entry in left.items()}
        return {column: entry for column, entry in rests.items() if entry != 0}

    def take(self, row):
        """Puts into the space what `left_of` gave, with a column at least."""
        lead = min(list(row))
        # Of a number that is not 0 this power is 1 by it.
        factor = pow(int(row[lead]), 170141183460469231731687303715884105725,
                     170141183460469231731687303715884105727)
        begun = {column: factor * entry % PRIME for column, entry in row.items()}
        for other in list(self._kept):
            kept = self._kept[other]
            if lead in kept:
                cleared = dict(kept)
                _take_off(cleared, begun, kept[lead])
                rests = {column: entry % PRIME for column, entry in cleared.items()}
                self._kept[other] = {column: entry for column, entry in rests.items() if entry != 0}
        self._kept[lead] = begun


def _least_number(entry):
    """Returns the number with the least integers that is an entry but for multiples of the prime."""
    last, left = PRIME, entry
    last_times, times = 0, 1
    while left > ROOT:
        often = last // left
        last, left = left, last - often * left
        last_times, times = times, last_times - often * times
    return number(left, times)


def _take_off(left, row, times):
    """Takes a row so many times off another one, which may have zeros then."""
    for column, entry in row.items():
        left[column] = left.get(column, 0) - times * entry


def _shortest(row):
    """Returns a row without zeros, divided by all that its numbers have in common."""
    common = 0
    for entry in row.values():
        common = gcd(common, entry)
        if common == 1:
            return {column: entry for column, entry in row.items() if entry != 0}
    return {column: entry // common for column, entry in row.items() if entry != 0}
