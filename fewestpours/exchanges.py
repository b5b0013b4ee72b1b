"""Rows that exchange two digits, and rows that call blocks by other names."""

from fewestpours.digitlayings import digit, laid_by
from fewestpours.powers import raised


def exchange_row(m, k, order, inner, outer):
    """Some row from the standing laid by the order to that by the order with the entries at both places exchanged."""
    entries = list(order)
    entries[inner] = order[outer]
    entries[outer] = order[inner]
    later = laid_by(m, k, tuple(entries))[1]
    # Each record keeps all other digits of its block, so just those blocks are poured that differ in this one.
    place = outer - k
    step = raised(m, place)
    row = []
    for first in range(len(later)):
        if digit(first, m, place) == 0:
            who = tuple([first + step * index for index in range(m)])
            row.append((who, tuple([later[at] for at in who])))
    return tuple(row)


def rings(names):
    """A list of the rings, each a list of blocks, each one's name being the next one, and the last one's the first."""
    seen = {}
    found = []
    for first in range(len(names)):
        ring = []
        at = first
        while at not in seen:
            seen[at] = True
            ring.append(at)
            at = names[at]
        if ring:
            found.append(ring)
    return found


def shifted(blocks, ring):
    """A pour by which what lies in each of these blocks goes to the next one, and from the last one to the first."""
    goods = {}
    for index, at in enumerate(ring):
        goods[at] = blocks[ring[index - 1]]
    who = tuple(sorted(ring))
    return who, tuple([goods[at] for at in who])


def renaming_row(standing, names, m):
    """Some row to the standing in which what lies in block i lies in names[i]."""
    blocks = list(standing[1])
    row = []
    for ring in rings(names):
        left = ring
        while len(left) > 1:
            who, parts = shifted(blocks, left[:m])
            for at, part in zip(who, parts):
                blocks[at] = part
            row.append((who, parts))
            # All but the first have got what they are to have; it has what is to go on along the ring.
            left = left[:1] + left[m:]
    return tuple(row)
