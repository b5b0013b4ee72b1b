"""Lives: standings that change, each with a wish and a plan that meets it."""

from fewestpours.basics import is_tuple_of
from fewestpours.below import pours_needed
from fewestpours.errands import is_errand
from fewestpours.errors import InvalidRow
from fewestpours.pours import meets


def is_life(value):
    """Whether any value is a life."""
    if not is_tuple_of(value, 4):
        return False
    standing, wish, m, plan = value
    return is_errand((m, standing, wish, plan))


def begun(standing, wish, m, row):
    """The life with these; the row may be any value."""
    if not meets(standing, wish, m, row):
        raise InvalidRow(3)
    return standing, wish, m, row


def gap(life):
    """How many pours more the plan of the life has than are needed."""
    standing, wish, m, plan = life
    return len(plan) - pours_needed(standing, wish, m)
