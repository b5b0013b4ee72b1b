"""Tables parted into planes, in none of which a line has more than a block."""

from fewestpours.tablefilling import Filling


def line_sums(table):
    """A pair: a list of the sums of the rows, and one of those of the columns."""
    rows = [sum(row) for row in table]
    return rows, [sum([row[at] for row in table]) for at in range(len(table))]


def padded(table, lines):
    """A table of lists, nowhere less than this one, in which the lines add up to just what is told."""
    rows, columns = line_sums(table)
    full = [list(row) for row in table]
    for at in range(len(full)):
        for index in range(len(full)):
            more = min(lines[at] - rows[at], lines[index] - columns[index])
            full[at][index] += more
            rows[at] += more
            columns[index] += more
    return full


def less(table, other):
    """The table less the other one."""
    return [[x - y for x, y in zip(row, others)] for row, others in zip(table, other)]


def inner_share(full, m, last, b):
    """What of a full table goes to the planes from number last on: m - last times b in each line but the last ones."""
    high = [row[:-1] + [0] for row in full[:-1]] + [[0] * len(full)]
    start = [[x * (m - last) // m for x in row] for row in high]
    sums = [(m - last) * b] * (len(full) - 1) + [0]
    low = [[0] * len(full) for _ in full]
    return Filling(low, high, start, sums, sums).fill()


def even_share(table, many):
    """One of so many like shares of a table, whose lines add up to many times the same."""
    low = [[x // many for x in row] for row in table]
    high = [[(x + many - 1) // many for x in row] for row in table]
    rows, columns = line_sums(table)
    return Filling(low, high, low, [x // many for x in rows], [x // many for x in columns]).fill()


def shares(table, many):
    """A list of so many like shares of a table, that add up to it."""
    found = []
    left = table
    for count in range(many, 0, -1):
        found.append(even_share(left, count))
        left = less(left, found[-1])
    return found


def without(planes, more):
    """The planes, from which together so much is taken in each cell as this table tells."""
    left = [list(row) for row in more]
    found = []
    for plane in planes:
        taken = [[min(x, y) for x, y in zip(row, others)] for row, others in zip(plane, left)]
        left = less(left, taken)
        found.append(tuple([tuple(row) for row in less(plane, taken)]))
    return tuple(found)


def even_planes(m, last, b, table):
    """None, or some m planes that add up to the table, the last row and column being 0 in those from number last on."""
    if not table:
        return ((),) * m
    lines = [m * b] * (len(table) - 1) + [last * b]
    for sums in line_sums(table):
        for told, most in zip(sums, lines):
            if told > most:
                return None
    full = padded(table, lines)
    inner = inner_share(full, m, last, b)
    planes = shares(less(full, inner), last) + shares(inner, m - last)
    return without(planes, less(full, table))
