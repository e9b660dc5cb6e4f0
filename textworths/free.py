"""Free rows: lists of whole numbers, none of which is a sum of multiples of others."""

from math import gcd, lcm

from textworths.numbers import shortened


class Free:
    """Rows that are free of each other, and what tells other rows by them.

    There are as many leads, columns in which no sum of multiples of the rows is 0 all over but the
    one of zeros alone. For each lead there is (below, line): with these multiples the rows add up to
    below in it, and to 0 in all other leads.
    """

    def __init__(self, width):
        self._rows = []
        self._lines = {}
        self._others = list(range(width))

    def told(self, row):
        """Returns (below, aboves): the numbers, one for each free row, with which they add up to a row.

        Where there are none, it returns None, and this row is the next of the free ones.
        """
        used = [(row[lead], told) for lead, told in self._lines.items() if row[lead] != 0]
        scale = 1
        for entry, (below, _) in used:
            if below != 1:
                scale = lcm(scale, below // gcd(below, entry))
        aboves = [0] * len(self._rows)
        for entry, (below, line) in used:
            times = entry * scale // below
            aboves = [above + times * factor for above, factor in zip(aboves, line)]
        taken = [(above, free) for above, free in zip(aboves, self._rows) if above != 0]
        for column in self._others:
            left = scale * row[column] - sum([above * free[column] for above, free in taken])
            if left != 0:
                self._take(row, column, left, [-above for above in aboves] + [scale])
                return None
        return scale, aboves

    def _take(self, row, column, left, line):
        """Takes a row as a free one, with a column as its lead, in which a line of multiples gives so much."""
        if left < 0:
            left, line = -left, [-factor for factor in line]
        left, line = shortened(left, line)
        for lead in list(self._lines):
            below, factors = self._lines[lead]
            entry = sum([factor * free[column] for factor, free in zip(factors, self._rows) if factor != 0])
            longer = factors + [0]
            if entry != 0:
                common = gcd(entry, left)
                scale, times = left // common, entry // common
                below, longer = shortened(
                    below * scale, [scale * factor - times * taken for factor, taken in zip(longer, line)])
            self._lines[lead] = (below, longer)
        self._lines[column] = (left, line)
        self._rows.append(row)
        self._others = [other for other in self._others if other != column]
