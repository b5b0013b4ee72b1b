"""Tables that lie row by row, and are to lie column by column."""


def table_standing(b, rows, columns):
    """The standing in which the records of a table lie row by row, b in each block."""
    records = list(range(rows * columns))
    return b, tuple([tuple(records[at:at + b]) for at in range(0, len(records), b)])


def turned_wish(b, rows, columns):
    """The wish by which the records of a table lie column by column, b in each block."""
    return tuple([(column * rows + row) // b for row in range(rows) for column in range(columns)])


def turned_order(i, j):
    """The order j to i + j - 1, 0 to j - 1."""
    return tuple(range(j, i + j)) + tuple(range(j))
