"""Records that lie by the digits of their numbers."""

from fewestpours.powers import raised


def digit(x, m, place):
    """The digit of x at this place, to the base m."""
    return x // raised(m, place) % m


def read_off(x, m, places):
    """The number that has at each place t the digit of x at place places[t]."""
    number = 0
    for place in places[::-1]:
        number = number * m + digit(x, m, place)
    return number


def laid_by(m, k, order):
    """The standing with m ** k records in each block, in which these lie by their digits in this order."""
    outer = order[k:]
    blocks = [[] for _ in range(raised(m, len(outer)))]
    for x in range(raised(m, len(order))):
        blocks[read_off(x, m, outer)].append(x)
    return raised(m, k), tuple([tuple(block) for block in blocks])


def foreign_digits(k, order):
    """How many entries at places from k on are below k."""
    return len([entry for entry in order[k:] if entry < k])
