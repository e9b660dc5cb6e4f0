"""Free rows: lists of whole numbers, none of which is a sum of multiples of others."""

from math import gcd, lcm

from textworths.numbers import shortened


class Free:
    """Rows that are free of each other, and what tells other rows by them.

    There are as many leads, columns in which no sum of multiples of the rows is 0 all over but the
    one of zeros alone. For each lead there is (lead, below, line): with the multiples of the line
    the rows add up to below in this lead, and to 0 in all others.
    """

    def __init__(self, width):
        self._rows = []
        self._lines = []
        self._others = list(range(width))

    def told(self, row):
        """Returns (below, aboves): the numbers, one for each free row, with which they add up to a row.

        Where there are none, it returns None, and this row is the next of the free ones.
        """
        scale = 1
        used = []
        for lead, below, line in self._lines:
            entry = row[lead]
            if entry != 0:
                used.append((entry, below, line))
                if below != 1:
                    scale = lcm(scale, below // gcd(below, entry))
        aboves = [0] * len(self._rows)
        for entry, below, line in used:
            times = entry * scale // below
            aboves = [above + times * factor for above, factor in zip(aboves, line)]
        for column in self._others:
            left = scale * row[column]
            for above, free in zip(aboves, self._rows):
                if above != 0:
                    left -= above * free[column]
            if left != 0:
                self._take(row, column, left, [-above for above in aboves] + [scale])
                return None
        return scale, aboves

    def _take(self, row, column, left, line):
        """Takes a row as a free one, with a column as its lead, in which a line of multiples gives so much."""
        if left < 0:
            left, line = -left, [-factor for factor in line]
        left, line = shortened(left, line)
        entries = [free[column] for free in self._rows]
        lines = []
        for lead, below, factors in self._lines:
            entry = sum([factor * above for factor, above in zip(factors, entries)])
            longer = factors + [0]
            if entry != 0:
                common = gcd(entry, left)
                scale, times = left // common, entry // common
                below, longer = shortened(
                    below * scale, [scale * factor - times * taken for factor, taken in zip(longer, line)])
            lines.append((lead, below, longer))
        lines.append((column, left, line))
        self._lines = lines
        self._rows.append(row)
        self._others = [other for other in self._others if other != column]
