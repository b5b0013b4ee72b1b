"""How many pours are enough for any wish."""


def rounded_up(x, y):
    """x / y, rounded up."""
    return (x + y - 1) // y


def pours_by_groups(many, m, size, known):
    """How many pours are enough if so many blocks are taken in groups of this size."""
    groups = rounded_up(many, size)
    last = many - (groups - 1) * size
    wide = groups if last > 1 else groups - 1
    within = 2 * rounded_up(wide, m // size)
    if groups > m:
        across = last * grouping(groups, m, known)[0] + (size - last) * grouping(groups - 1, m, known)[0]
    elif groups == 2:
        across = rounded_up(last, m // groups)
    else:
        across = rounded_up(size, m // groups)
    return within + across


def grouping(many, m, known):
    """A pair: the least number of pours told for so many blocks, and a size of groups that gives it.

    What was found is kept in the dict. Up to m blocks are one group.
    """
    if many <= m:
        return min(many - 1, 1), many
    if many not in known:
        known[many] = min([(pours_by_groups(many, m, size, known), size) for size in range(2, m + 1)])
    return known[many]


def most_pours(many, m):
    """So many pours are enough for any wish of so many blocks."""
    return grouping(many, m, {})[0]
