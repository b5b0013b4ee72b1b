"""A disk with some rooms, while a program runs."""

from fewestpours.diskcode import is_instruction


def records_in(room):
    """The records in the places of a room, ascending."""
    return tuple(sorted([record for record in room if record is not None]))


def places_with(records, b):
    """A list of b places, the first of which have these records."""
    return list(records) + [None] * (b - len(records))


def held_blocks(blocks, rooms):
    """A list of what each block holds: the taken ones, in order, have what is in the rooms that are not free."""
    shown = [records_in(room) for room in rooms if room is not None]
    held = []
    passed = 0
    for block in blocks:
        if block is None:
            held.append(shown[passed])
            passed += 1
        else:
            held.append(block)
    return held


class Disk:
    """The blocks of a disk and the rooms beside it, as they are between two instructions."""

    def __init__(self, b, blocks, rooms):
        self.b = b
        self.blocks = list(blocks)
        self.rooms = [None if room is None else list(room) for room in rooms]

    def is_taken(self, block):
        """Whether this number is that of a block that is taken."""
        return block < len(self.blocks) and self.blocks[block] is None

    def is_there(self, block):
        """Whether this number is that of a block that is not taken."""
        return block < len(self.blocks) and self.blocks[block] is not None

    def is_free(self, room):
        """Whether this number is that of a free room."""
        return room < len(self.rooms) and self.rooms[room] is None

    def is_used(self, room):
        """Whether this number is that of a room that is not free."""
        return room < len(self.rooms) and self.rooms[room] is not None

    def wrong_entry(self, instruction):
        """The index of the first entry that keeps any value from being done, 0 if it is no instruction, else None."""
        if not is_instruction(instruction):
            return 0
        if instruction[0] == "read":
            looks = (self.is_there(instruction[1]), self.is_free(instruction[2]))
        elif instruction[0] == "write":
            looks = (self.is_used(instruction[1]), self.is_taken(instruction[2]))
        else:
            looks = (
                self.is_used(instruction[1]),
                instruction[2] < self.b,
                self.is_used(instruction[3]),
                instruction[4] < self.b,
            )
        if False in looks:
            return looks.index(False) + 1
        return None

    def carry_out(self, instruction):
        """Do an instruction that can be done."""
        if instruction[0] == "read":
            self.read_block(instruction[1], instruction[2])
        elif instruction[0] == "write":
            self.write_block(instruction[1], instruction[2])
        else:
            self.swap_places(instruction)

    def read_block(self, block, room):
        """Take a block into a free room."""
        records = self.blocks[block]
        self.rooms[room] = places_with(records, self.b)
        self.blocks[block] = None

    def write_block(self, room, block):
        """Put what is in a room into a taken block."""
        self.blocks[block] = records_in(self.rooms[room])
        self.rooms[room] = None

    def swap_places(self, instruction):
        """Let what stands at two places change places."""
        _, room, place, other, further = instruction
        one = self.rooms[room][place]
        self.rooms[room][place] = self.rooms[other][further]
        self.rooms[other][further] = one

    def state(self):
        """The state of this disk."""
        rooms = tuple([None if room is None else tuple(room) for room in self.rooms])
        return self.b, tuple(self.blocks), rooms

    def taken(self):
        """A list of the numbers of the taken blocks."""
        return [at for at, block in enumerate(self.blocks) if block is None]
