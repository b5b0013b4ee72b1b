"""Search trees, trimmed from searches, or made for the fewest visits."""

from fewestpours.basics import all_entries, is_all_below
from fewestpours.depths import least_depths
from fewestpours.searching import is_right, is_search, keys_below


def is_search_tree(n, b, value):
    """Whether any value is a search tree for n keys with at most b keys in a node."""
    if not is_search(n, b, value) or not is_right(n, value):
        return False
    keys = all_entries([node[0] for node in value])
    followed = [later for node in value for later in node[1] if later is not None]
    return len(keys) == n and is_all_below(keys) and sorted(followed) == list(range(1, len(value)))


def grown(first, low, high, parts_of):
    """The search tree for the gaps from low to high, if there are two or more of these.

    From a mark and such gaps, first the mark told here, parts_of tells the keys of a node, and a mark for each
    of its entries.
    """
    waiting = []
    if low < high:
        waiting.append((first, low, high))
    nodes = []
    while len(nodes) < len(waiting):
        mark, least, most = waiting[len(nodes)]
        keys, marks = parts_of(mark, least, most)
        nexts = []
        for begin, end, later in zip([least, *[key + 1 for key in keys]], [*keys, most], marks):
            if begin == end:
                nexts.append(None)
            else:
                nexts.append(len(waiting))
                waiting.append((later, begin, end))
        nodes.append((keys, tuple(nexts)))
    return tuple(nodes)


def trimmed(n, search):
    """Some search tree that reads for each gap and each key at most as many nodes as the right search."""

    def parts_of(at, low, high):
        """What is of use in the first node from this one on in which the gaps from low to high part."""
        node = at
        first = keys_below(search[node][0], low)
        last = keys_below(search[node][0], high)
        while first == last:
            node = search[node][1][first]
            first = keys_below(search[node][0], low)
            last = keys_below(search[node][0], high)
        return search[node][0][first:last], search[node][1][first:last + 1]

    return grown(0, 0, n, parts_of)


def least_height(n, b):
    """The least number of visits to the most visited gap."""
    height = 0
    gaps = 1
    while gaps <= n:
        gaps = gaps * (b + 1)
        height += 1
    return height


def least_visits(n, b):
    """The pair of the least sum of visits to all gaps and of that to all keys."""
    # So many keys at most are found by one visit, by two, and so on.
    row = b
    left = n
    level = 1
    key_sum = 0
    while left > 0:
        key_sum += level * min(row, left)
        left -= row
        row = row * (b + 1)
        level += 1
    return least_depths(n + 1, b + 1), key_sum


def level_sizes(many, b):
    """A list of how many keys lie below each entry of the first node, if so many keys are laid level by level.

    All levels but the last one are full, and in the last one all nodes but the last.
    """
    height = least_height(many, b)
    if height < 2:
        return [0] * (many + 1)
    # With the least and the most keys below an entry all its levels are full: one level less, or as many.
    least = 0
    most = b
    for _ in range(height - 2):
        least = most
        most = most * (b + 1) + b
    left = many - b - least * (b + 1)
    sizes = []
    for _ in range(b + 1):
        more = min(left, most - least)
        sizes.append(least + more)
        left -= more
    return sizes


def level_tree(n, b):
    """Some search tree with the least visits: to the most visited gap, to all gaps and to all keys."""

    def parts_of(mark, low, high):
        """The keys of the first node for these gaps."""
        sizes = level_sizes(high - low, b)
        keys = []
        below = low
        for size in sizes[:-1]:
            keys.append(below + size)
            below += size + 1
        return tuple(keys), [mark] * len(sizes)

    return grown(0, 0, n, parts_of)


def slow_gap(n, search):
    """The gap found by always going on where most gaps are left."""
    node = 0
    low = 0
    high = n
    while low < high:
        keys, nexts = search[node]
        first = keys_below(keys, low)
        last = keys_below(keys, high)
        bounds = [low, *[key + 1 for key in keys[first:last]], high + 1]
        lefts = [end - begin for begin, end in zip(bounds, bounds[1:])]
        entry = lefts.index(max(lefts))
        low = bounds[entry]
        high = bounds[entry + 1] - 1
        node = nexts[first + entry]
    return low
