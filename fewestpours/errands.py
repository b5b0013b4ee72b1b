"""Errands: a standing, a wish, and a row that meets it."""

from fewestpours.basics import LEAST_ROOMS, MOST_ROOMS, is_between, is_tuple_of
from fewestpours.errors import Refused
from fewestpours.pours import back, behind, meets
from fewestpours.standings import is_standing, is_wish, renamed_blocks, renamed_wish, wish_of


def is_errand(value):
    """Whether any value is an errand."""
    if not is_tuple_of(value, 4):
        return False
    m, standing, wish, row = value
    if not is_between(m, LEAST_ROOMS, MOST_ROOMS):
        return False
    return is_standing(standing) and is_wish(standing, wish) and meets(standing, wish, m, row)


def renamed_pour(pour, names):
    """The pour in which block i is called names[i]."""
    who, parts = pour
    part_of = {names[at]: part for at, part in zip(who, parts)}
    new_who = tuple(sorted([names[at] for at in who]))
    return new_who, tuple([part_of[at] for at in new_who])


def renamed_errand(errand, names):
    """The errand in which block i is called names[i]."""
    m, standing, wish, row = errand
    new_row = tuple([renamed_pour(pour, names) for pour in row])
    return m, renamed_blocks(standing, names), renamed_wish(wish, names), new_row


def relabelled_blocks(blocks, names):
    """Blocks, or parts, in which record i is called names[i]."""
    return tuple([tuple(sorted([names[record] for record in block])) for block in blocks])


def relabelled_errand(errand, names):
    """The errand in which record i is called names[i]."""
    m, (b, blocks), wish, row = errand
    goals = list(wish)
    for record, goal in enumerate(wish):
        goals[names[record]] = goal
    new_row = tuple([(who, relabelled_blocks(parts, names)) for who, parts in row])
    return m, (b, relabelled_blocks(blocks, names)), tuple(goals), new_row


def turned_errand(errand):
    """The errand that leads back from behind the row."""
    m, standing, _, row = errand
    last = behind(standing, m, row)
    return m, last, wish_of(last, standing), back(standing, m, row)


def joined_errand(errand, other):
    """The errand with the pours of the first one, then those of the second one, which begins where it ends."""
    m, standing, _, row = errand
    other_m, other_standing, other_wish, other_row = other
    if m != other_m:
        raise Refused(0)
    if behind(standing, m, row) != other_standing:
        raise Refused(1)
    return m, standing, other_wish, row + other_row
