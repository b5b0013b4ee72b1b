"""Asks for pages, the stretches between them, and the rooms in which pages are kept."""

from fewestpours.basics import is_number, is_tuple_of


def stretches(asks):
    """All pairs of times at which one page is asked for, and at none between them."""
    last = {}
    found = []
    for time, page in enumerate(asks):
        if page in last:
            found.append((last[page], time))
        last[page] = time
    return tuple(sorted(found))


def kept_over(asks, kept):
    """A list of how many of these stretches lie over each time, their own times not counted."""
    changes = [0] * (len(asks) + 1)
    for i, j in kept:
        changes[i + 1] += 1
        changes[j] -= 1
    over = []
    now = 0
    for time in range(len(asks)):
        now += changes[time]
        over.append(now)
    return over


def is_some_stretches(asks, value):
    """Whether any value is an ascending tuple of stretches."""
    if not isinstance(value, tuple):
        return False
    end_of = {i: j for i, j in stretches(asks)}
    last = -1
    for entry in value:
        if not is_tuple_of(entry, 2) or not is_number(entry[0]) or not is_number(entry[1]):
            return False
        # No two stretches begin at one time, so it is enough that their beginnings ascend.
        if entry[0] <= last or end_of.get(entry[0]) != entry[1]:
            return False
        last = entry[0]
    return True


def is_kept_lot(asks, m, value):
    """Whether any value is an ascending tuple of stretches, at most m - 1 of which lie over any time."""
    if not is_some_stretches(asks, value):
        return False
    return max([0, *kept_over(asks, value)]) < m


def kept_by(asks, row):
    """The stretches between whose times the page lies in one room, and no other page does."""
    kept = []
    last = {}
    begin_of = {j: i for i, j in stretches(asks)}
    for time, room in enumerate(row):
        if room in last and begin_of.get(time) == last[room]:
            kept.append((last[room], time))
        last[room] = time
    return tuple(sorted(kept))


def free_room(held_until, time):
    """The first room that is not held over this time; there is one, unless a stretch of a kept lot ends there."""
    room = 0
    while held_until[room] > time:
        room += 1
    return room


def rooms_of(asks, m, kept):
    """Some room row with rooms below m that keeps these stretches."""
    begin_of = {j: i for i, j in kept}
    end_of = {i: j for i, j in kept}
    # Until which time each room is held by a stretch of the lot.
    held_until = [0] * m
    row = []
    for time in range(len(asks)):
        if time in begin_of:
            room = row[begin_of[time]]
        else:
            room = free_room(held_until, time)
        held_until[room] = end_of.get(time, time)
        row.append(room)
    return tuple(row)
