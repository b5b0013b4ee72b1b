"""Parting trees: papers that show that no laying, whatever the size of the blocks, has fewer visits."""

from fewestpours.depthtrees import end_depths, is_tree
from fewestpours.layingvisits import blocks_of_nodes, visits, way
from fewestpours.searchtrees import least_height


def least_worst(h, b):
    """The least number of visits to the most visited end."""
    return least_height((1 << h) - 1, b)


def middle_below(h, node):
    """The number of the first end to the right below a node."""
    row = (node + 1).bit_length() - 1
    return (2 * (node + 1 - (1 << row)) + 1) << (h - row - 1)


class Parter:
    """How the ends are parted by the blocks that are read on the ways to them."""

    def __init__(self, h, block_of):
        self.h = h
        self.block_of = block_of
        cuts_of = {}
        for node, block in enumerate(block_of):
            cuts_of.setdefault(block, []).append(middle_below(h, node))
        # For each block the ends at which its nodes part, from left to right.
        self.cuts_of = {block: sorted(cuts_of[block]) for block in cuts_of}

    def first_unread(self, end, read):
        """The block of the first node above an end that is in none of the blocks of a mask."""
        for node in way(self.h, end):
            block = self.block_of[node]
            if not read >> block & 1:
                return block
        return None

    def tree_for(self, low, high, read):
        """The parting tree of the ends from low on and below high, which the blocks of a mask don't part."""
        if high - low == 1:
            return ()
        # All these ends have the same way up to the first node that was not read, so the same next block.
        block = self.first_unread(low, read)
        later = read | 1 << block
        cuts = [cut for cut in self.cuts_of[block] if low < cut < high]
        if not cuts:
            return self.tree_for(low, high, later)
        return tuple([self.tree_for(begin, end, later) for begin, end in zip([low, *cuts], [*cuts, high])])


def parting_tree(h, laying, b, shift):
    """Some tree of the fan b + 1 in which no end is deeper than its visits."""
    return Parter(h, blocks_of_nodes(laying, b, shift)).tree_for(0, 1 << h, 0)


def is_parting_tree(h, laying, b, shift, value):
    """Whether any value is a tree of the fan b + 1 in which no end is deeper than its visits."""
    if not is_tree(b + 1, value):
        return False
    depths = end_depths(value)
    if len(depths) != 1 << h:
        return False
    return not any([depth > most for depth, most in zip(depths, visits(h, laying, b, shift))])
