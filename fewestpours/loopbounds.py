"""Bounds from below for loops over tables: so many entries any walk has to bring in."""

from fewestpours.enough import rounded_up
from fewestpours.shadows import most_by_shadows


def point_count(sides):
    """How many points there are."""
    p, q, r = sides
    return p * q * r


def entry_count(sides):
    """How many entries all three tables have."""
    p, q, r = sides
    return p * r + r * q + p * q


def bound_by(sides, room, t):
    """So many steps "in" at least has any walk, as between t of them only few points can be done."""
    parts = rounded_up(point_count(sides), most_by_shadows(room + t))
    return t * (parts - 1) + 1


def moves_at_least(sides, room):
    """The greatest of these bounds, and of the number of all entries."""
    points = point_count(sides)
    greatest = entry_count(sides)
    t = 1
    # What few entries allow never falls with more of them.
    while most_by_shadows(room + t) < points:
        greatest = max(greatest, bound_by(sides, room, t))
        t += 1
    return greatest
