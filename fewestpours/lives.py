"""Lives through rows of changes, and lives whose plans are made shorter."""

from fewestpours.below import pours_needed
from fewestpours.errors import InvalidQuestion
from fewestpours.livingchanges import changed, is_change
from fewestpours.pours import lay
from fewestpours.rounds import put_together


def without_idle(standing, row):
    """The row without the pours that leave all records where they lie."""
    held = list(standing[1])
    left = []
    for pour in row:
        if pour[1] != tuple([held[at] for at in pour[0]]):
            left.append(pour)
            lay(held, pour)
    return tuple(left)


def joined(life):
    """The life in whose plan neighbouring pours are made one as long as may be, and idle ones left out."""
    standing, wish, m, plan = life
    return standing, wish, m, without_idle(standing, put_together(plan, m))


def lived(life, changes):
    """Some life behind all changes, which may be any values."""
    now = life
    for at, change in enumerate(changes):
        if not is_change(now, change):
            raise InvalidQuestion(at)
        now = changed(now, change)
    return now


def planned_and_needed(life):
    """The pair of how many pours the plan of the life has, and how many are needed."""
    standing, wish, m, plan = life
    return len(plan), pours_needed(standing, wish, m)


def diary(life, changes):
    """For the life, and behind each change, how many pours its plan has, and how many are needed."""
    now = life
    told = [planned_and_needed(now)]
    for change in changes:
        now = changed(now, change)
        told.append(planned_and_needed(now))
    return tuple(told)
