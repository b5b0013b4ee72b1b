"""Programs that move blocks between a disk and some rooms."""

from fewestpours.basics import is_number

# How many entries an instruction of each kind has.
LENGTHS = {"read": 3, "write": 3, "swap": 5}


def is_instruction(value):
    """Whether any value is an instruction."""
    if not isinstance(value, tuple) or not value or not isinstance(value[0], str):
        return False
    if value[0] not in LENGTHS or len(value) != LENGTHS[value[0]]:
        return False
    for entry in value[1:]:
        if not is_number(entry):
            return False
    return True


def is_program(value):
    """Whether any value is a program."""
    if not isinstance(value, tuple):
        return False
    for entry in value:
        if not is_instruction(entry):
            return False
    return True


def reads_in(program):
    """How many instructions of the program are reads."""
    return len([instruction for instruction in program if instruction[0] == "read"])


def moves_in(program):
    """How many instructions of the program are reads or writes."""
    return len([instruction for instruction in program if instruction[0] != "swap"])
