"""Papers that show how many misses there are at least."""

from fewestpours.asks import is_kept_lot, stretches
from fewestpours.basics import is_ascending, is_tuple_of
from fewestpours.keeping import kept_and_prices


def counts_up_to(many, times):
    """A list of how many of these times lie below each time."""
    is_told = {time: True for time in times}
    counts = [0]
    for time in range(many):
        counts.append(counts[-1] + (1 if time in is_told else 0))
    return counts


def ask_bound(asks, m, times):
    """No kept lot for m has more stretches than these times tell."""
    below = counts_up_to(len(asks), times)
    untouched = [(i, j) for i, j in stretches(asks) if below[i + 1] == below[j]]
    return (m - 1) * len(times) + len(untouched)


def ask_paper(asks, m):
    """A pair of some kept lot, and some times whose bound is the number of its stretches."""
    kept, prices = kept_and_prices(asks, [1] * len(stretches(asks)), m)
    # A price above 1 shows no more than the price 1 does.
    return kept, tuple([time for time, price in enumerate(prices) if price > 0])


def is_ask_paper(asks, m, value):
    """Whether any value is a pair of a kept lot and of times whose bound is the number of its stretches."""
    if not is_tuple_of(value, 2):
        return False
    kept, times = value
    if not is_kept_lot(asks, m, kept) or not is_ascending(times, len(asks)):
        return False
    if times and times[-1] >= len(asks):
        return False
    return ask_bound(asks, m, times) == len(kept)
