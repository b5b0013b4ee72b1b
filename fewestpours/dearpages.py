"""Pages that cost unlike much, and papers for these."""

from fewestpours.asks import is_kept_lot, stretches
from fewestpours.basics import is_number, is_tuple_of
from fewestpours.keeping import kept_and_prices


def kept_worth(asks, costs, kept):
    """What is spared by the stretches of a kept lot."""
    return sum([costs[asks[i]] for i, _ in kept])


def price_bound(asks, costs, m, prices):
    """No kept lot for m is worth more than these prices tell."""
    below = [0]
    for price in prices:
        below.append(below[-1] + price)
    dearer = [max(0, costs[asks[i]] - below[j] + below[i + 1]) for i, j in stretches(asks)]
    return (m - 1) * sum(prices) + sum(dearer)


def price_paper(asks, costs, m):
    """A pair of some kept lot, and some prices whose bound is its worth."""
    return kept_and_prices(asks, [costs[asks[i]] for i, _ in stretches(asks)], m)


def is_price_paper(asks, costs, m, value):
    """Whether any value is a pair of a kept lot and of prices whose bound is its worth."""
    if not is_tuple_of(value, 2):
        return False
    kept, prices = value
    if not is_kept_lot(asks, m, kept) or not is_tuple_of(prices, len(asks)):
        return False
    for price in prices:
        if not is_number(price):
            return False
    return price_bound(asks, costs, m, prices) == kept_worth(asks, costs, kept)
