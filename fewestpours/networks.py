"""Networks: pairs of places, told ahead, whose words are put in order one pair after another."""

from fewestpours.basics import is_number, is_tuple_of
from fewestpours.errors import Refused

MOST_PLACES = 12


def is_network(n, value):
    """Whether any value is a network of n places."""
    if not isinstance(value, tuple):
        return False
    for pair in value:
        if not is_tuple_of(pair, 2) or not is_number(pair[0]) or not is_number(pair[1]):
            return False
        if not pair[0] < pair[1] < n:
            return False
    return True


def run_network(network, words):
    """The words behind the network."""
    held = list(words)
    for i, j in network:
        if held[j] < held[i]:
            held[i], held[j] = held[j], held[i]
    return tuple(held)


def all_rows(n):
    """A list of n masks: bit r of the mask of a place is what row r has there.

    Rows are all tuples of n numbers 0 and 1, in order, beginning with row 0.
    """
    every = (1 << (1 << n)) - 1
    masks = []
    for place in range(n):
        # So many rows side by side have 0 there, then as many 1, and so on.
        many = 1 << (n - 1 - place)
        masks.append(every // ((1 << many) + 1) << many)
    return masks


def unsorted_rows(n, network):
    """A mask: bit r is 1 if row r is not in ascending order behind the network."""
    masks = all_rows(n)
    for i, j in network:
        masks[i], masks[j] = masks[i] & masks[j], masks[i] | masks[j]
    found = 0
    for mask, later in zip(masks, masks[1:]):
        found = found | (mask & ~later)
    return found


def refuse_many_places(n):
    """Refuse more places than all rows are looked at for."""
    if n > MOST_PLACES:
        raise Refused(n)


def unsorted_row(n, network):
    """The least tuple of n numbers 0 and 1 that is not in ascending order behind the network; None if there is none."""
    refuse_many_places(n)
    found = unsorted_rows(n, network)
    if found == 0:
        return None
    row = (found & -found).bit_length() - 1
    return tuple([row >> (n - 1 - place) & 1 for place in range(n)])


def is_sorting(n, value):
    """Whether any value is a network of n places that brings all rows of words into ascending order."""
    refuse_many_places(n)
    return is_network(n, value) and unsorted_rows(n, value) == 0
