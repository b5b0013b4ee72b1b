"""The laying by halves of heights, which is good for blocks of all sizes, and papers for it."""

from fewestpours.basics import is_between
from fewestpours.layingvisits import lots_on_ways


def nodes_below(node, rows):
    """A list of the nodes so many rows below a node, from left to right."""
    first = ((node + 1) << rows) - 1
    return list(range(first, first + (1 << rows)))


def lower_half(rows):
    """The greatest power of 2 below so many rows, two or more."""
    return 1 << ((rows - 1).bit_length() - 1)


def laid_by_halves(node, rows):
    """A list of the nodes of the tree of so many rows with this node at its top, in the order in which they lie."""
    if rows == 1:
        return [node]
    lower = lower_half(rows)
    laid = laid_by_halves(node, rows - lower)
    for top in nodes_below(node, rows - lower):
        laid.extend(laid_by_halves(top, lower))
    return laid


def halves_laying(h):
    """The laying by halves of a tree of h rows."""
    return tuple(laid_by_halves(0, h))


def rows_within(b):
    """The greatest power of 2 such that a tree of so many rows has at most b nodes."""
    rows = 1
    while (1 << (2 * rows)) - 1 <= b:
        rows = rows * 2
    return rows


def run_lengths(rows, most):
    """A list of the lengths of the parts of at most so many rows of which a tree is laid by halves."""
    if rows <= most:
        return [(1 << rows) - 1]
    lower = lower_half(rows)
    return run_lengths(rows - lower, most) + run_lengths(lower, most) * (1 << (rows - lower))


def halves_runs(h, b):
    """The lengths of the runs of places that show how few visits the laying by halves has."""
    return tuple(run_lengths(h, rows_within(b)))


def is_runs(h, b, value):
    """Whether any value is a tuple of numbers from 1 to b that add up to the number of nodes."""
    if not isinstance(value, tuple):
        return False
    for entry in value:
        if not is_between(entry, 1, b):
            return False
    return sum(value) == (1 << h) - 1


def run_paper(h, laying, b, value):
    """So many visits at most has each end, as any value, the lengths of runs of places, tells; None if it is none."""
    if not is_runs(h, b, value):
        return None
    run_of = [0] * len(laying)
    place = 0
    for run, length in enumerate(value):
        for node in laying[place:place + length]:
            run_of[node] = run
        place += length
    # A run lies in one block or in two.
    return 2 * max(lots_on_ways(h, run_of))
