"""A plain row that meets a wish."""


def home_parts(who, blocks, wish, b):
    """Parts for these blocks by which each record that wishes one of them lies there."""
    parts = [[] for _ in who]
    place = {at: index for index, at in enumerate(who)}
    strangers = []
    for index, at in enumerate(who):
        for record in blocks[at]:
            if wish[record] in place:
                parts[place[wish[record]]].append(record)
            else:
                strangers.append((index, record))
    outcasts = []
    for index, record in strangers:
        if len(parts[index]) < b:
            parts[index].append(record)
        else:
            outcasts.append(record)
    for record in outcasts:
        parts[first_free(parts, b)].append(record)
    return tuple([tuple(sorted(part)) for part in parts])


def first_free(parts, b):
    """The index of the first part with a free place; there is one, as the parts have as many as their blocks."""
    at = 0
    while len(parts[at]) == b:
        at += 1
    return at


def holders(blocks, wish, goal):
    """A list of the other blocks in which records lie that wish this one."""
    found = []
    for at, block in enumerate(blocks):
        if at != goal and goal in [wish[record] for record in block]:
            found.append(at)
    return found


def row_home(b, first, wish, m):
    """A list of pours of at most m of these blocks that meets the wish.

    No record leaves the block that it wishes, and each pour brings one home from each further block;
    so there are no more pours than records.
    """
    blocks = list(first)
    row = []
    for goal in range(len(blocks)):
        others = holders(blocks, wish, goal)
        for at in range(0, len(others), m - 1):
            who = sorted([goal, *others[at:at + m - 1]])
            parts = home_parts(who, blocks, wish, b)
            for index, part in zip(who, parts):
                blocks[index] = part
            row.append((tuple(who), parts))
    return row
