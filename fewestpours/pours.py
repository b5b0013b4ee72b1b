"""Pours: the records of some blocks shared out among these anew; and rows of pours."""

from fewestpours.basics import all_entries, is_ascending, is_tuple_of
from fewestpours.errors import InvalidRow
from fewestpours.standings import is_met


def fits(b, blocks, m, value):
    """Whether any value is a pour of at most m of these blocks, with at most b records in each."""
    if not is_tuple_of(value, 2):
        return False
    who, parts = value
    if not is_ascending(who, m) or len(who) < 2 or who[-1] >= len(blocks):
        return False
    if not is_tuple_of(parts, len(who)):
        return False
    for part in parts:
        if not is_ascending(part, b):
            return False
    return sorted(all_entries(parts)) == sorted(all_entries([blocks[at] for at in who]))


def lay(blocks, pour):
    """Put the parts of a pour into a list of blocks."""
    who, parts = pour
    for at, part in zip(who, parts):
        blocks[at] = part


def blocks_together(who, others):
    """How many blocks these and the others are together, each counted once."""
    return len(who) + len([at for at in others if at not in who])


def is_pour(standing, m, value):
    """Whether any value is a pour of at most m blocks of this standing."""
    b, blocks = standing
    return fits(b, blocks, m, value)


def poured(standing, m, value):
    """The standing behind a pour, which may be any value."""
    if not is_pour(standing, m, value):
        raise InvalidRow(0)
    b, blocks = standing
    held = list(blocks)
    lay(held, value)
    return b, tuple(held)


def behind(standing, m, row):
    """The standing behind all pours of a row, which may be any value."""
    if not isinstance(row, tuple):
        raise InvalidRow(0)
    b, blocks = standing
    held = list(blocks)
    for at, pour in enumerate(row):
        if not fits(b, held, m, pour):
            raise InvalidRow(at)
        lay(held, pour)
    return b, tuple(held)


def meets(standing, wish, m, row):
    """Whether any value is a row of pours of at most m blocks each, behind which the wish is met."""
    try:
        last = behind(standing, m, row)
    except InvalidRow:
        return False
    return is_met(last, wish)


def back(standing, m, row):
    """The row that leads back from behind this one, with the same blocks in each pour."""
    held = list(standing[1])
    ways = []
    for pour in row:
        who = pour[0]
        ways.append((who, tuple([held[at] for at in who])))
        lay(held, pour)
    return tuple(ways[::-1])
