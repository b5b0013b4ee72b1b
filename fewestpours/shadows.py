"""Points of a product of two tables, the entries that they need, and how many points few entries allow."""

from math import isqrt


def needs(point):
    """The three entries that a point needs, in the order of the tables."""
    i, j, k = point
    return (0, i, k), (1, k, j), (2, i, j)


def shadows(points):
    """The triple of how many entries of each table some of the points needs."""
    return (
        len({(i, k) for i, _, k in points}),
        len({(k, j) for _, j, k in points}),
        len({(i, j) for i, j, _ in points}),
    )


def most_by_shadows(total):
    """So many points at most have so many entries in all three tables together."""
    # The product of three numbers is the greatest if they are as even as can be.
    return isqrt((total // 3) * ((total + 1) // 3) * ((total + 2) // 3))
