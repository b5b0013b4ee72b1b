"""Programs as rows of pours, and rows of pours as programs."""

from fewestpours.diskmachine import first_state
from fewestpours.disks import Disk, held_blocks, places_with
from fewestpours.pours import lay


def held_standing(state):
    """The standing in which the taken blocks have what is in the rooms that are not free, both in order."""
    b, blocks, rooms = state
    return b, tuple(held_blocks(blocks, rooms))


def add_pour(row, disk, taken):
    """Put behind a row the pour of the blocks taken by the last read, if these are two or more."""
    if len(taken) > 1:
        held = held_blocks(disk.blocks, disk.rooms)
        row.append((tuple(taken), tuple([held[at] for at in taken])))


def row_of(standing, m, program):
    """The row of pours that a program is: one for each read behind which two or more blocks are taken."""
    b, blocks, rooms = first_state(standing, m)
    disk = Disk(b, blocks, rooms)
    row = []
    taken = []
    for instruction in program:
        if instruction[0] == "read":
            add_pour(row, disk, taken)
            disk.carry_out(instruction)
            taken = disk.taken()
        else:
            disk.carry_out(instruction)
    add_pour(row, disk, taken)
    return tuple(row)


def place_for(room, goal_of, goal, start):
    """The first place from start on in which this room has nothing that is to stay there."""
    place = start
    while room[place] is not None and goal_of[room[place]] == goal:
        place += 1
    return place


def swaps_between(b, lying, parts):
    """A list of swaps by which the rooms with these records get these parts instead."""
    goal_of = {record: goal for goal, part in enumerate(parts) for record in part}
    rooms = [places_with(records, b) for records in lying]
    starts = [0] * len(rooms)
    swaps = []
    for room in range(len(rooms)):
        for place in range(b):
            record = rooms[room][place]
            # Each swap brings one record to the room where it stays.
            while record is not None and goal_of[record] != room:
                goal = goal_of[record]
                spot = place_for(rooms[goal], goal_of, goal, starts[goal])
                starts[goal] = spot + 1
                swaps.append(("swap", room, place, goal, spot))
                other = rooms[goal][spot]
                rooms[goal][spot] = record
                rooms[room][place] = other
                record = other
    return swaps


def program_of(standing, m, row):
    """A program that pours the row: it reads the blocks of each pour, swaps records, and writes them back."""
    b, blocks = standing
    held = list(blocks)
    program = []
    for pour in row:
        who, parts = pour
        for room, at in enumerate(who):
            program.append(("read", at, room))
        program.extend(swaps_between(b, [held[at] for at in who], parts))
        for room, at in enumerate(who):
            program.append(("write", room, at))
        lay(held, pour)
    return tuple(program)
