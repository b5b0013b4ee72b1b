"""Trees, whose ends lie within tuples."""

from fewestpours.partings import best_parting


def is_tree(m, value):
    """Whether any value is a tree of the fan m."""
    waiting = [value]
    while waiting:
        tree = waiting.pop()
        if not isinstance(tree, tuple) or len(tree) == 1 or len(tree) > m:
            return False
        waiting.extend(tree)
    return True


def end_depths(tree):
    """A list of the depths of the tree's ends, from left to right."""
    depths = []
    waiting = [(tree, 0)]
    while waiting:
        part, depth = waiting.pop()
        if not part:
            depths.append(depth)
        for entry in part[::-1]:
            waiting.append((entry, depth + 1))
    return depths


def end_count(tree):
    """How many ends the tree has."""
    return len(end_depths(tree))


def depth_sum(tree):
    """The sum of the depths of the tree's ends."""
    return sum(end_depths(tree))


def best_tree(x, m):
    """Some tree of the fan m with x ends, from 1 on, and as small a sum of depths as any."""
    if x == 1:
        return ()
    return tuple([best_tree(part, m) for part in best_parting(x, m)])


def without_lone(entries):
    """The tuple of these trees, or the tree itself if it is just one."""
    if len(entries) == 1:
        return entries[0]
    return tuple(entries)


def trees_by_mark(tree, marks, first):
    """A pair: what is left of the tree for each mark of its ends, and the number of the end behind it.

    The first of its ends has the number told.
    """
    if not tree:
        return {marks[first]: ()}, first + 1
    entries = {}
    at = first
    for entry in tree:
        found, at = trees_by_mark(entry, marks, at)
        for mark in found:
            entries.setdefault(mark, []).append(found[mark])
    return {mark: without_lone(entries[mark]) for mark in entries}, at


def parted(tree, marks, many):
    """For each number below many what is left of the tree if just the ends with this mark are kept."""
    found = trees_by_mark(tree, marks, 0)[0]
    return tuple([found.get(mark) for mark in range(many)])
