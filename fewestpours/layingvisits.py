"""Layings of the nodes of a tree, and how many blocks are visited on the ways down."""

from fewestpours.basics import is_all_below, is_sequence_of_numbers, is_tuple_of


def way(h, end):
    """The nodes above an end of a tree of h rows, from node 0 down."""
    return tuple([(1 << row) - 1 + (end >> (h - row)) for row in range(h)])


def is_laying(h, value):
    """Whether any value is a tuple of all nodes of a tree of h rows."""
    return is_tuple_of(value, (1 << h) - 1) and is_sequence_of_numbers(value) and is_all_below(value)


def lots_on_ways(h, lot_of):
    """A list with, for each end, in how many unlike lots the nodes of its way lie, if each node lies in the lot told.

    Which lots were met down to a node is kept as a mask: bit i stands for lot i.
    """
    met = [1 << lot_of[0]]
    counts = [1]
    for node in range(1, len(lot_of)):
        above = (node - 1) // 2
        now = met[above] | 1 << lot_of[node]
        met.append(now)
        counts.append(counts[above] if now == met[above] else counts[above] + 1)
    # Below each node of the last row there are two ends.
    return [count for count in counts[(1 << (h - 1)) - 1:] for _ in range(2)]


def blocks_of_nodes(laying, b, shift):
    """A list of the block in which each node lies."""
    block_of = [0] * len(laying)
    for place, node in enumerate(laying):
        block_of[node] = (place + shift) // b
    return block_of


def visits(h, laying, b, shift):
    """For each end in how many unlike blocks the nodes of its way lie."""
    return tuple(lots_on_ways(h, blocks_of_nodes(laying, b, shift)))


def visit_sum(h, laying, b):
    """The visits to all ends with all shifts, added up."""
    place_of = blocks_of_nodes(laying, 1, 0)
    total = 0
    for end in range(1 << h):
        places = sorted([place_of[node] for node in way(h, end)])
        # A way has one block more than there are neighbours on it in unlike blocks; so many of the shifts part these.
        total += b + sum([min(b, later - place) for place, later in zip(places, places[1:])])
    return total
