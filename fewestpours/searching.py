"""Searches: nodes that are read one after another, until a key or a gap between keys is found."""

from fewestpours.basics import is_ascending, is_number, is_tuple_of

MOST_NODES = 1000


def is_node(n, b, at, many, value):
    """Whether any value is the node with this number of a search of so many nodes."""
    if not is_tuple_of(value, 2):
        return False
    keys, nexts = value
    if not is_ascending(keys, b) or not keys or keys[-1] >= n:
        return False
    if not is_tuple_of(nexts, len(keys) + 1):
        return False
    for later in nexts:
        if later is not None and (not is_number(later) or not at < later < many):
            return False
    return True


def is_search(n, b, value):
    """Whether any value is a search for n keys with at most b keys in a node."""
    if not isinstance(value, tuple) or len(value) > MOST_NODES:
        return False
    for at, node in enumerate(value):
        if not is_node(n, b, at, len(value), node):
            return False
    return True


def keys_below(keys, bound):
    """How many of these keys, ascending, are below the bound."""
    low = 0
    high = len(keys)
    while low < high:
        middle = (low + high) // 2
        if keys[middle] < bound:
            low = middle + 1
        else:
            high = middle
    return low


def gap_stop(search, gap):
    """A triple: how many nodes are read for a gap, and the node and its entry at which it stops, None without any."""
    read = 0
    node = None
    entry = None
    following = 0 if search else None
    while following is not None:
        node = following
        entry = keys_below(search[node][0], gap)
        following = search[node][1][entry]
        read += 1
    return read, node, entry


def gap_visits(search, gap):
    """How many nodes are read for a gap."""
    return gap_stop(search, gap)[0]


def key_visits(search, key):
    """How many nodes are read for a key."""
    read = 0
    following = 0 if search else None
    while following is not None:
        keys, nexts = search[following]
        read += 1
        at = keys_below(keys, key)
        if at < len(keys) and keys[at] == key:
            return read
        following = nexts[at]
    return read


def is_right(n, search):
    """Whether no two gaps stop at the same entry of the same node."""
    stops = {}
    for gap in range(n + 1):
        _, node, entry = gap_stop(search, gap)
        if (node, entry) in stops:
            return False
        stops[(node, entry)] = True
    return True
