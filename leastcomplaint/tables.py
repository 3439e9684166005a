"""The table in which a program is solved: column after column is brought into use."""


def cleared(line, kept, column, unit):
    """A line without what it has in a column, by the help of the line that is kept as it is."""
    factor = line[column]
    pivot = kept[column]
    # The unit divides each of these numbers: all of them are determinants of parts of the program.
    return [(number * pivot - factor * other) // unit for number, other in zip(line, kept)]


class Table:
    """The rows of a program, solved for the columns that are in use.

    A line has a number for each column of the program, then the total, then a mark for each row: the marks tell how
    the line came about from the rows. All numbers are to be divided by the unit. A row for which no column is in use
    yet lacks its total. Two more lines tell how much more is lacking in all, and how much more it costs, if a column
    is used; in place of the total they have what is lacking, and what it costs, multiplied by -1.
    """

    def __init__(self, rows, totals, costs):
        self.unit = 1
        self.width = len(costs)
        self.used = [None] * len(rows)
        self.lines = []
        for at, row in enumerate(rows):
            sign = -1 if totals[at] < 0 else 1
            marks = [1 if other == at else 0 for other in range(len(totals))]
            self.lines.append([sign * number for number in [*row, totals[at]] + marks])
        self.missing = [-sum(column) for column in zip(*self.lines)]
        self.costs = list(costs) + [0] * (1 + len(totals))

    def is_before(self, one, other, column):
        """Whether of two rows the first one is the first to be used up if a column is used more and more."""
        left = self.lines[one]
        right = self.lines[other]
        # Totals may tie again and again. The marks never tie: so no table comes twice, and the way has an end.
        own = [number * right[column] for number in left[self.width:]]
        return own < [number * left[column] for number in right[self.width:]]

    def row_for(self, column):
        """The row that is used up first if a column is used more and more, or None if none ever is."""
        best = None
        for at, line in enumerate(self.lines):
            if line[column] > 0 and (best is None or self.is_before(at, best, column)):
                best = at
        return best

    def bring(self, column, at):
        """Bring a column into use, in the place of the one that is in use for a row."""
        kept = self.lines[at]
        self.lines = [kept if k == at else cleared(line, kept, column, self.unit) for k, line in enumerate(self.lines)]
        self.missing = cleared(self.missing, kept, column, self.unit)
        self.costs = cleared(self.costs, kept, column, self.unit)
        self.used[at] = column
        self.unit = kept[column]

    def is_lacking(self):
        """Whether some row lacks something of its total."""
        return self.missing[self.width] < 0

    def lacking_column(self):
        """The column by which the rows come to lack less most quickly, or None."""
        best = min(self.missing[:self.width])
        return self.missing.index(best) if best < 0 else None

    def cheaper_column(self):
        """The column that lessens the costs most quickly, of those by which no row comes to lack anything, or None."""
        best = None
        for column in range(self.width):
            cost = self.costs[column]
            if self.missing[column] == 0 and cost < 0 and (best is None or cost < self.costs[best]):
                best = column
        return best

    def amounts(self):
        """How much of each column is in use, multiplied by the unit."""
        found = [0] * self.width
        for column, line in zip(self.used, self.lines):
            if column is not None:
                found[column] = line[self.width]
        return found

    def way(self, column):
        """How the amounts change if a column is used more and more that uses up no row."""
        found = [0] * self.width
        for other, line in zip(self.used, self.lines):
            if other is not None:
                found[other] = -line[column]
        found[column] = self.unit
        return found

    def multipliers(self):
        """Multipliers of the rows that show that something has to be lacking."""
        return [-number for number in self.missing[self.width + 1:]]

    def prices(self):
        """Prices of the rows, multiplied by the unit, when no column is left that lessens the costs."""
        # A column that was left out, as rows would come to lack something by it, may still seem too cheap. The
        # multipliers make such columns dearer and no column cheaper, and those of the totals come to 0.
        pairs = list(zip(self.missing, self.costs))
        factor = max([0] + [-(cost // missing) for missing, cost in pairs[:self.width] if missing > 0])
        return [-cost - factor * missing for missing, cost in pairs[self.width + 1:]]
