"""What the other files share: the limits, and looks at values of which nothing is known beforehand."""

MOST_SIZE = 64
MOST_BLOCKS = 64
MOST_RECORDS = 1024
LEAST_ROOMS = 2
MOST_ROOMS = 16


def is_whole(value):
    """Whether any value is an integer, and neither True nor False."""
    return isinstance(value, int) and not isinstance(value, bool)


def is_number(value):
    """Whether any value is a number: an integer from 0 on."""
    return is_whole(value) and value >= 0


def is_between(value, least, most):
    """Whether any value is a number from least to most."""
    return is_number(value) and least <= value <= most


def is_tuple_of(value, many):
    """Whether any value is a tuple of so many things."""
    return isinstance(value, tuple) and len(value) == many


def is_ascending(value, most):
    """Whether any value is a tuple of at most so many numbers, each less than the next one."""
    if not isinstance(value, tuple) or len(value) > most:
        return False
    last = -1
    for entry in value:
        if not is_number(entry) or entry <= last:
            return False
        last = entry
    return True


def is_sequence_of_numbers(value):
    """Whether any value is a list or a tuple of numbers."""
    if not isinstance(value, (list, tuple)):
        return False
    for entry in value:
        if not is_number(entry):
            return False
    return True


def is_integer_table(value, lengths):
    """Whether any value is a tuple of tuples of integers, with so many in each."""
    if not is_tuple_of(value, len(lengths)):
        return False
    for row, many in zip(value, lengths):
        if not is_tuple_of(row, many):
            return False
        for entry in row:
            if not is_whole(entry):
                return False
    return True


def all_entries(rows):
    """A list of what stands in the rows, one row behind another."""
    entries = []
    for row in rows:
        entries.extend(row)
    return entries


def is_all_below(entries):
    """Whether each number below their count is just once among these numbers."""
    return sorted(entries) == list(range(len(entries)))
