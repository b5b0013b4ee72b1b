"""The machine: a disk, some rooms, and what a program does there."""

from fewestpours.basics import (
    LEAST_ROOMS,
    MOST_BLOCKS,
    MOST_RECORDS,
    MOST_ROOMS,
    MOST_SIZE,
    all_entries,
    is_all_below,
    is_ascending,
    is_between,
    is_number,
    is_tuple_of,
)
from fewestpours.disks import Disk
from fewestpours.errors import InvalidRow


def first_state(standing, m):
    """The state of a standing with m rooms, all of which are free."""
    b, blocks = standing
    return b, blocks, (None,) * m


def is_disk(b, value):
    """Whether any value is a tuple of as many blocks as there may be, each taken or with its records."""
    if not isinstance(value, tuple) or not 1 <= len(value) <= MOST_BLOCKS:
        return False
    for block in value:
        if block is not None and not is_ascending(block, b):
            return False
    return True


def is_room(b, value):
    """Whether any value is a room that is not free: a tuple of b places."""
    if not is_tuple_of(value, b):
        return False
    for entry in value:
        if entry is not None and not is_number(entry):
            return False
    return True


def is_rooms(b, value):
    """Whether any value is a tuple of as many rooms as there may be."""
    if not isinstance(value, tuple) or not LEAST_ROOMS <= len(value) <= MOST_ROOMS:
        return False
    for room in value:
        if room is not None and not is_room(b, room):
            return False
    return True


def is_state(value):
    """Whether any value is a state."""
    if not is_tuple_of(value, 3):
        return False
    b, blocks, rooms = value
    if not is_between(b, 1, MOST_SIZE) or not is_disk(b, blocks) or not is_rooms(b, rooms):
        return False
    there = [block for block in blocks if block is not None]
    used = [room for room in rooms if room is not None]
    if len(blocks) - len(there) != len(used):
        return False
    records = [record for record in all_entries(there + used) if record is not None]
    return len(records) <= MOST_RECORDS and is_all_below(records)


def done_once(state, instruction):
    """The state behind an instruction, which may be any value."""
    b, blocks, rooms = state
    disk = Disk(b, blocks, rooms)
    wrong = disk.wrong_entry(instruction)
    if wrong is not None:
        raise InvalidRow(wrong)
    disk.carry_out(instruction)
    return disk.state()


def run(standing, m, program):
    """The state behind all instructions of a program, which may be any value."""
    if not isinstance(program, tuple):
        raise InvalidRow(0)
    b, blocks, rooms = first_state(standing, m)
    disk = Disk(b, blocks, rooms)
    for at, instruction in enumerate(program):
        if disk.wrong_entry(instruction) is not None:
            raise InvalidRow(at)
        disk.carry_out(instruction)
    return disk.state()


def is_idle(state):
    """Whether all rooms of the state are free."""
    for room in state[2]:
        if room is not None:
            return False
    return True
