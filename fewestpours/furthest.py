"""Which pages to keep: furthest first goes what is asked for last."""

from fewestpours.asks import stretches


def page_to_leave(next_asks):
    """The page, of those in the rooms, that is not asked for again, or, if there is none, the one asked for last.

    The dict tells for each page when it is asked for again, None if it is not.
    """
    farthest = None
    for page in next_asks:
        if next_asks[page] is None:
            return page
        if farthest is None or next_asks[page] > next_asks[farthest]:
            farthest = page
    return farthest


def furthest(asks, m):
    """The stretches that are kept by the rule."""
    begin_of = {j: i for i, j in stretches(asks)}
    end_of = {i: j for i, j in stretches(asks)}
    next_asks = {}
    kept = []
    for time, page in enumerate(asks):
        if page in next_asks:
            kept.append((begin_of[time], time))
        elif len(next_asks) == m:
            del next_asks[page_to_leave(next_asks)]
        next_asks[page] = end_of.get(time)
    return tuple(sorted(kept))


def fewest_misses(asks, m):
    """How many misses every program has at least."""
    return len(asks) - len(furthest(asks, m))


def hits_by_rooms(asks, most):
    """The greatest numbers of stretches in kept lots for one room, two rooms, and so on."""
    return tuple([len(furthest(asks, m)) for m in range(1, most + 1)])
