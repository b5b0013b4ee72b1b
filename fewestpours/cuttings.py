"""Given trees whose nodes are laid into blocks."""

from fewestpours.basics import is_integer_table
from fewestpours.errors import InvalidPaper


def visits_by_node(parents, cut):
    """A list of how many blocks are visited for each node."""
    visits = []
    for node, parent in enumerate(parents):
        if parent is None:
            visits.append(1)
        elif cut[parent] == cut[node]:
            visits.append(visits[parent])
        else:
            visits.append(visits[parent] + 1)
    return visits


def cut_visits(parents, cut, node):
    """How many blocks are visited on the way to a node."""
    return visits_by_node(parents, cut)[node]


def cut_weight(parents, weights, cut):
    """All visits, each times its weight, added up."""
    return sum([visits * weight for visits, weight in zip(visits_by_node(parents, cut), weights)])


def sons_of(parents):
    """A list of the sons of each node."""
    sons = [[] for _ in parents]
    for node, parent in enumerate(parents):
        if parent is not None:
            sons[parent].append(node)
    return sons


def weights_below(parents, weights):
    """A list of the weights of each node and all below it."""
    sums = list(weights)
    for node in range(len(parents) - 1, 0, -1):
        sums[parents[node]] += sums[node]
    return sums


def told_by_son(row, heavy, places):
    """What a son tells that gets so many places: if it gets none, it and all below it are visited once more."""
    return row[places - 1] if places > 0 else heavy + row[-1]


def steps_over_sons(b, rows, heavies):
    """A list of lists: for none of the sons, for the first one, and so on, the least sums for 0 to b - 1 places."""
    steps = [[0] * b]
    for row, heavy in zip(rows, heavies):
        last = steps[-1]
        tolds = [told_by_son(row, heavy, places) for places in range(b)]
        steps.append([min([last[most - at] + tolds[at] for at in range(most + 1)]) for most in range(b)])
    return steps


def cut_table(b, parents, weights):
    """The greatest fitting table."""
    sons = sons_of(parents)
    heavies = weights_below(parents, weights)
    table = [()] * len(parents)
    for node in range(len(parents) - 1, -1, -1):
        steps = steps_over_sons(b, [table[son] for son in sons[node]], [heavies[son] for son in sons[node]])
        table[node] = tuple(steps[-1])
    return tuple(table)


def lightest_cut(b, parents, weights):
    """Some cut of the least weight of all with at most b nodes in a block."""
    sons = sons_of(parents)
    heavies = weights_below(parents, weights)
    table = cut_table(b, parents, weights)
    cut = list(range(len(parents)))
    # How many places of its block each node and those below it may take.
    places = [b] * len(parents)
    for node, below in enumerate(sons):
        steps = steps_over_sons(b, [table[son] for son in below], [heavies[son] for son in below])
        left = places[node] - 1
        for at in range(len(below) - 1, -1, -1):
            son = below[at]
            tolds = [steps[at][left - told] + told_by_son(table[son], heavies[son], told) for told in range(left + 1)]
            got = tolds.index(min(tolds))
            if got > 0:
                cut[son] = cut[node]
                places[son] = got
            left -= got
    return tuple(cut)


def cut_bound(b, parents, weights, value):
    """No cut with at most b nodes in a block weighs less than any value, a fitting table, tells."""
    if not is_integer_table(value, [b] * len(parents)):
        raise InvalidPaper(0)
    heavies = weights_below(parents, weights)
    for row, below in zip(value, sons_of(parents)):
        steps = steps_over_sons(b, [value[son] for son in below], [heavies[son] for son in below])
        for entry, most in zip(row, steps[-1]):
            if entry > most:
                raise InvalidPaper(1)
    return sum(weights) + value[0][-1]


def shallow_cut(b, parents):
    """Some cut with at most b nodes in a block whose most visited node has the least visits."""
    sons = sons_of(parents)
    heights = [1] * len(parents)
    sizes = [1] * len(parents)
    for node in range(len(parents) - 1, -1, -1):
        highest = max([1, *[heights[son] for son in sons[node]]])
        # Just the highest sons have to be in the node's block, each with as few nodes as its height allows.
        size = 1 + sum([sizes[son] for son in sons[node] if heights[son] == highest])
        if size <= b:
            heights[node] = highest
            sizes[node] = size
        else:
            heights[node] = highest + 1
    cut = list(range(len(parents)))
    for node, parent in enumerate(parents):
        if parent is not None and heights[parent] == heights[node]:
            cut[node] = cut[parent]
    return tuple(cut)
