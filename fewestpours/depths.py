"""The measure in depths."""


def least_depths(x, m):
    """The least sum of depths of trees of the fan m with x ends; 0 for none."""
    if x == 0:
        return 0
    level = 0
    full = 1
    while full * m <= x:
        full = full * m
        level += 1
    # Each end of the full level that gives way to an inner tuple makes room for at most m - 1 more.
    more = x - full
    inner = (more + m - 2) // (m - 1)
    return level * x + more + inner


def depth_potential(table, m):
    """The sum of the least depths of all numbers in the table."""
    counts = {}
    for row in table:
        for x in row:
            counts[x] = counts.get(x, 0) + 1
    return sum([least_depths(x, m) * counts[x] for x in counts])
