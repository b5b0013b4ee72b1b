"""Best partings: numbers of ends that a best tree may have in its entries."""

from fewestpours.basics import is_number
from fewestpours.depths import least_depths


def is_best_parting(m, value):
    """Whether any value is a best parting for m."""
    if not isinstance(value, tuple) or not 2 <= len(value) <= m:
        return False
    for entry in value:
        if not is_number(entry) or entry == 0:
            return False
    total = sum(value)
    return least_depths(total, m) == sum([least_depths(entry, m) for entry in value]) + total


def best_parting(x, m):
    """Some best parting for m whose sum is x, from 2 on."""
    if x <= m:
        return (1,) * x
    part = 1
    while part * m * m <= x:
        part = part * m
    # Each part is full up to one level; what is more fills the next level of the first part, then of the second one.
    left = x - part * m
    parts = []
    for _ in range(m):
        more = min(left, part * (m - 1))
        parts.append(part + more)
        left -= more
    return tuple(parts)
