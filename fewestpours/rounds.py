"""Rows whose pours are done in rounds, exchanged, or made one."""

from fewestpours.pours import blocks_together


def rounds_of(row):
    """For each pour its round: 0, or one more than the greatest round of those ahead that share a block with it."""
    # For each block the round behind the last one in which it is poured.
    later_of = {}
    found = []
    for who, _ in row:
        turn = max([later_of.get(at, 0) for at in who])
        found.append(turn)
        for at in who:
            later_of[at] = turn + 1
    return tuple(found)


def settled(row):
    """The same pours by rounds, those of one round ascending."""
    return tuple([pour for _, pour in sorted(zip(rounds_of(row), row))])


def are_exchanges(one, other):
    """Whether both rows are the same, once settled."""
    return settled(one) == settled(other)


def made_one(pour, later):
    """The pour of all blocks of two pours that does what both do one behind the other."""
    part_of = {at: part for at, part in zip(pour[0], pour[1])}
    for at, part in zip(later[0], later[1]):
        part_of[at] = part
    who = tuple(sorted(part_of))
    return who, tuple([part_of[at] for at in who])


def put_together(row, m):
    """The row in which pours were made one with the last one ahead, as long as both had at most m blocks together."""
    found = []
    for pour in row:
        taken = pour
        while found and blocks_together(found[-1][0], taken[0]) <= m:
            taken = made_one(found.pop(), taken)
        found.append(taken)
    return tuple(found)
