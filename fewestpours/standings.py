"""Standings, where the records lie, and wishes, where they are to lie."""

from fewestpours.basics import (
    MOST_BLOCKS,
    MOST_RECORDS,
    MOST_SIZE,
    all_entries,
    is_all_below,
    is_ascending,
    is_between,
    is_number,
    is_sequence_of_numbers,
    is_tuple_of,
)
from fewestpours.errors import InvalidStanding


def is_standing(value):
    """Whether any value is a standing."""
    if not is_tuple_of(value, 2):
        return False
    b, blocks = value
    if not is_between(b, 1, MOST_SIZE) or not isinstance(blocks, tuple):
        return False
    if not 1 <= len(blocks) <= MOST_BLOCKS:
        return False
    for block in blocks:
        if not is_ascending(block, b):
            return False
    records = all_entries(blocks)
    return len(records) <= MOST_RECORDS and is_all_below(records)


def record_count(standing):
    """How many records the standing has."""
    return sum([len(block) for block in standing[1]])


def block_of(standing, record):
    """The number of the block in which this record of the standing lies."""
    for at, block in enumerate(standing[1]):
        if record in block:
            return at
    return None


def standing_of(b, blocks):
    """The standing with these records in its blocks, in whatever order they are told."""
    if not is_between(b, 1, MOST_SIZE):
        raise InvalidStanding(0)
    if not isinstance(blocks, (list, tuple)):
        raise InvalidStanding(1)
    laid = []
    for block in blocks:
        if not is_sequence_of_numbers(block):
            raise InvalidStanding(1)
        laid.append(tuple(sorted(block)))
    standing = (b, tuple(laid))
    if not is_standing(standing):
        raise InvalidStanding(1)
    return standing


def is_wish(standing, value):
    """Whether any value is a wish of this standing."""
    b, blocks = standing
    if not is_tuple_of(value, record_count(standing)):
        return False
    wishers = [0] * len(blocks)
    for goal in value:
        if not is_number(goal) or goal >= len(blocks) or wishers[goal] == b:
            return False
        wishers[goal] += 1
    return True


def crowd(block, wish, many):
    """The tuple with, for each of so many blocks, how many of these records wish it."""
    counts = [0] * many
    for record in block:
        counts[wish[record]] += 1
    return tuple(counts)


def crowds(standing, wish):
    """For each block, and each block wished, how many of the records that lie in the first wish the second."""
    blocks = standing[1]
    return tuple([crowd(block, wish, len(blocks)) for block in blocks])


def is_met(standing, wish):
    """Whether each record lies in the block that it wishes."""
    for at, block in enumerate(standing[1]):
        for record in block:
            if wish[record] != at:
                return False
    return True


def wish_of(standing, other):
    """The wish by which each record of the first standing lies where it lies in the second one."""
    goals = [0] * record_count(standing)
    for at, block in enumerate(other[1]):
        for record in block:
            goals[record] = at
    return tuple(goals)


def renamed_blocks(standing, names):
    """The standing in which what lay in block i lies in names[i]."""
    b, blocks = standing
    laid = list(blocks)
    for at, block in enumerate(blocks):
        laid[names[at]] = block
    return b, tuple(laid)


def renamed_wish(wish, names):
    """The wish in which block i is called names[i]."""
    return tuple([names[goal] for goal in wish])


def alike_records(standing, wish, one, other):
    """Whether two records of the standing wish the same block."""
    return wish[one] == wish[other]


def exchanged(standing, one, other):
    """The standing in which two records have changed places."""
    b, blocks = standing
    turned = {one: other, other: one}
    return b, tuple([tuple(sorted([turned.get(record, record) for record in block])) for block in blocks])
