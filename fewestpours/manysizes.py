"""Layings for one size of blocks, and for which sizes a laying is best."""

from fewestpours.halves import nodes_below
from fewestpours.layingvisits import visits
from fewestpours.partingtrees import least_worst


def level_laying(h):
    """All nodes of a tree of h rows, row by row."""
    return tuple(range((1 << h) - 1))


def laid_tuned(node, rows, a):
    """A list of the nodes of the tree of so many rows with this node at its top, in the order in which they lie."""
    upper = rows % a
    if upper == 0:
        upper = a
    laid = []
    if upper < rows:
        for top in nodes_below(node, upper):
            laid.extend(laid_tuned(top, rows - upper, a))
    for row in range(upper):
        laid.extend(nodes_below(node, row))
    return laid


def tuned_laying(h, a):
    """The laying of a tree of h rows that is best for blocks of 2 ** a - 1 nodes."""
    return tuple(laid_tuned(0, h, a))


def best_sizes(h, laying):
    """All sizes of blocks for which no laying has less visits to the most visited end, without a shift."""
    return tuple([b for b in range(1, 1 << h) if max(visits(h, laying, b, 0)) == least_worst(h, b)])
