"""Changes of a life, and what its plan becomes by them."""

from fewestpours.basics import MOST_RECORDS, is_number
from fewestpours.errors import InvalidQuestion
from fewestpours.pours import is_pour, poured

# How many entries a change of each kind has.
LENGTHS = {"come": 3, "go": 2, "wish": 3, "swap": 3, "pour": 2}


def is_index(value, many):
    """Whether any value is a number below this one."""
    return is_number(value) and value < many


def may_come(life, block, goal):
    """Whether a record can come into a block and wish another one, any values."""
    (b, blocks), wish, _, _ = life
    if not is_index(block, len(blocks)) or not is_index(goal, len(blocks)):
        return False
    return len(blocks[block]) < b and wish.count(goal) < b and len(wish) < MOST_RECORDS


def may_wish(life, record, goal):
    """Whether a record can wish a block, any values."""
    (b, blocks), wish, _, _ = life
    if not is_index(record, len(wish)) or not is_index(goal, len(blocks)):
        return False
    return wish[record] == goal or wish.count(goal) < b


def is_change(life, value):
    """Whether any value is a change that can be made."""
    if not isinstance(value, tuple) or not value or not isinstance(value[0], str):
        return False
    if value[0] not in LENGTHS or len(value) != LENGTHS[value[0]]:
        return False
    standing, wish, m, _ = life
    if value[0] == "come":
        return may_come(life, value[1], value[2])
    if value[0] == "wish":
        return may_wish(life, value[1], value[2])
    if value[0] == "pour":
        return is_pour(standing, m, value[1])
    for record in value[1:]:
        if not is_index(record, len(wish)):
            return False
    return True


def home_pour(wish, one, other):
    """The pour of two blocks by which each gets the records that wish it, if these all lie in the two of them."""
    who = (min(one, other), max(one, other))
    return who, tuple([tuple([record for record, goal in enumerate(wish) if goal == at]) for at in who])


def free_block(b, pour, at, goal):
    """The block of a pour in which one record more can lie: the goal, or else the one where it lay, or else any."""
    free = [block for block, part in zip(pour[0], pour[1]) if len(part) < b]
    for block in (goal, at):
        if block in free:
            return block
    return free[0]


def after_come(life, block, goal):
    """The life in which one record more lies in a block and wishes another one.

    Wherever its block is poured it takes a place that the plan leaves free; so only its way home may be lacking.
    """
    (b, blocks), wish, m, plan = life
    newcomer = len(wish)
    held = [(*records, newcomer) if at == block else records for at, records in enumerate(blocks)]
    place = block
    row = []
    for pour in plan:
        who, parts = pour
        if place in who:
            place = free_block(b, pour, place, goal)
            parts = tuple([(*part, newcomer) if at == place else part for at, part in zip(who, parts)])
        row.append((who, parts))
    goals = (*wish, goal)
    if place != goal:
        row.append(home_pour(goals, place, goal))
    return (b, tuple(held)), goals, m, tuple(row)


def lots_without(lots, record):
    """Blocks, or parts, without this record, later ones having numbers less by 1."""
    return tuple([tuple([other - 1 if other > record else other for other in lot if other != record]) for lot in lots])


def after_go(life, record):
    """The life without this record."""
    (b, blocks), wish, m, plan = life
    row = tuple([(who, lots_without(parts, record)) for who, parts in plan])
    return (b, lots_without(blocks, record)), wish[:record] + wish[record + 1:], m, row


def after_wish(life, record, goal):
    """The life in which a record wishes this block."""
    standing, wish, m, plan = life
    if wish[record] == goal:
        return life
    goals = (*wish[:record], goal, *wish[record + 1:])
    return standing, goals, m, (*plan, home_pour(goals, wish[record], goal))


def after_swap(life, one, other):
    """The life in which two records have exchanged their wishes."""
    standing, wish, m, plan = life
    if wish[one] == wish[other]:
        return life
    goals = list(wish)
    goals[one] = wish[other]
    goals[other] = wish[one]
    return standing, tuple(goals), m, (*plan, home_pour(goals, wish[one], wish[other]))


def after_pour(life, pour):
    """The life behind a pour: it was the plan's first one, or its way back is put ahead of the plan."""
    standing, wish, m, plan = life
    if plan and plan[0] == pour:
        later = plan[1:]
    else:
        way_back = (pour[0], tuple([standing[1][at] for at in pour[0]]))
        later = (way_back, *plan)
    return poured(standing, m, pour), wish, m, later


def changed(life, change):
    """Some life behind a change, which may be any value."""
    if not is_change(life, change):
        raise InvalidQuestion(1)
    if change[0] == "come":
        return after_come(life, change[1], change[2])
    if change[0] == "go":
        return after_go(life, change[1])
    if change[0] == "wish":
        return after_wish(life, change[1], change[2])
    if change[0] == "swap":
        return after_swap(life, change[1], change[2])
    return after_pour(life, change[1])
