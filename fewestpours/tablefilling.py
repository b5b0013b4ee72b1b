"""Tables that are filled until each line has what it needs, each cell staying within its bounds."""


def lowest_bit(mask):
    """The number of the lowest bit of a mask that isn't 0."""
    return (mask & -mask).bit_length() - 1


def bits_of(mask):
    """A list of the numbers of the bits of a mask."""
    found = []
    left = mask
    while left:
        found.append(lowest_bit(left))
        left = left & (left - 1)
    return found


class Filling:
    """A square table between two others, whose rows and columns are to add up to what is told.

    Lots of rows or columns are kept as masks: bit i stands for line i.
    """

    def __init__(self, low, high, start, row_sums, column_sums):
        size = len(start)
        self.low = low
        self.high = high
        self.held = [list(row) for row in start]
        self.row_needs = [row_sums[at] - sum(start[at]) for at in range(size)]
        self.column_needs = [column_sums[at] - sum([line[at] for line in start]) for at in range(size)]
        self.needy = sum([1 << at for at in range(size) if self.column_needs[at] > 0])
        # For each row the columns in which it may get more; for each column the rows that may give some of it away.
        self.growing = [0] * size
        self.giving = [0] * size
        for row in range(size):
            for column in range(size):
                self.mark(row, column)

    def mark(self, row, column):
        """Keep the masks as the cell tells."""
        x = self.held[row][column]
        self.growing[row] = self.growing[row] & ~(1 << column)
        self.giving[column] = self.giving[column] & ~(1 << row)
        if x < self.high[row][column]:
            self.growing[row] = self.growing[row] | 1 << column
        if x > self.low[row][column]:
            self.giving[column] = self.giving[column] | 1 << row

    def grow(self, row, column, amount):
        """Put more into a cell, or less if the amount is below 0."""
        self.held[row][column] += amount
        self.mark(row, column)

    def fill(self):
        """A table within the bounds whose lines add up to what is told, if there is one."""
        for row in range(len(self.held)):
            while self.row_needs[row] > 0:
                self.fill_once(row)
        return self.held

    def fill_once(self, row):
        """Give a row some more of what it needs."""
        straight = self.growing[row] & self.needy
        if straight:
            column = lowest_bit(straight)
            room = self.high[row][column] - self.held[row][column]
            amount = min(self.row_needs[row], self.column_needs[column], room)
            self.grow(row, column, amount)
        else:
            column, amount = self.fill_around(row)
        self.row_needs[row] -= amount
        self.column_needs[column] -= amount
        if self.column_needs[column] == 0:
            self.needy = self.needy & ~(1 << column)

    def fill_around(self, row):
        """Give a row more in a column of which another row gives as much away, and so on.

        It tells the needy column that grows, and how much.
        """
        taker_of = {}
        column_left = {}
        last, column = self.way_to_needy(row, taker_of, column_left)
        # The cells that grow and those that shrink on the way, from its end.
        growing = [(last, column)]
        shrinking = []
        at = last
        while at != row:
            given = column_left[at]
            shrinking.append((at, given))
            at = taker_of[given]
            growing.append((at, given))
        amounts = [self.row_needs[row], self.column_needs[column]]
        amounts.extend([self.high[one][other] - self.held[one][other] for one, other in growing])
        amounts.extend([self.held[one][other] - self.low[one][other] for one, other in shrinking])
        amount = min(amounts)
        for one, other in growing:
            self.grow(one, other, amount)
        for one, other in shrinking:
            self.grow(one, other, -amount)
        return column, amount

    def way_to_needy(self, row, taker_of, column_left):
        """The last row and the needy column of a shortest way.

        It tells the dicts for each column that was reached the row that may take some of it, and for each row that
        was reached the column of which it may give some away.
        """
        columns = (1 << len(self.held)) - 1
        rows = columns & ~(1 << row)
        reached = [row]
        while True:
            later = []
            for one in reached:
                fresh = self.growing[one] & columns
                columns = columns & ~fresh
                if fresh & self.needy:
                    return one, lowest_bit(fresh & self.needy)
                for column in bits_of(fresh):
                    taker_of[column] = one
                    givers = self.giving[column] & rows
                    rows = rows & ~givers
                    for other in bits_of(givers):
                        column_left[other] = column
                        later.append(other)
            reached = later
