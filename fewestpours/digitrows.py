"""Rows from one laying by digits to another one, and how many pours they need at least."""

from fewestpours.digitlayings import foreign_digits, laid_by, read_off
from fewestpours.exchanges import exchange_row, renaming_row
from fewestpours.pours import behind
from fewestpours.powers import raised
from fewestpours.turned import turned_order


def digit_bound(m, k, order):
    """So many pours any row needs at least, however the blocks are called."""
    foreign = foreign_digits(k, order)
    if foreign == 0:
        return 0
    return foreign * raised(m, len(order) - k - 1)


def foreign_place(k, order, place):
    """The place of the foreign entry that comes to this place, from which the entry goes inside.

    It is this place itself if its new entry is foreign. Otherwise that entry leaves another place, for which the
    same holds: so the places of such a chain are renamed in a ring of their own.
    """
    at = place
    while order[at] >= k:
        at = order[at]
    return at


def names_between(m, outer, wanted):
    """The names of blocks called by the digits in one order, by which they are called by them in another one."""
    places = [outer.index(entry) for entry in wanted]
    return tuple([read_off(block, m, places) for block in range(raised(m, len(outer)))])


def named_digit_row(m, k, order):
    """A pair: some row as long as the digit bound, and the names by which it leads to what the order lays."""
    now = list(range(len(order)))
    staying = {entry: True for entry in order[k:]}
    row = []
    for place in range(k, len(order)):
        if place not in staying:
            inner = order[foreign_place(k, order, place)]
            row.extend(exchange_row(m, k, tuple(now), inner, place))
            now[place] = inner
            now[inner] = place
    return tuple(row), names_between(m, now[k:], order[k:])


def digit_row(m, k, order):
    """Some row from the standing laid by 0, 1 and so on to that laid by the order."""
    row, names = named_digit_row(m, k, order)
    last = behind(laid_by(m, k, tuple(range(len(order)))), m, row)
    return row + renaming_row(last, names, m)


def least_turning(m, i, j, k):
    """So many pours at least turn a table of m ** i rows and m ** j columns, with m ** k records in a block."""
    return digit_bound(m, k, turned_order(i, j))
