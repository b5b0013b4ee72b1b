"""Bounds from below for programs that read block by block."""

from fewestpours.basics import all_entries, is_number
from fewestpours.below import fan_of, measured
from fewestpours.powers import psi, raised
from fewestpours.standings import crowd


def read_measure(state, wish):
    """Psi of the crowds of each block that is not taken, and of all rooms together."""
    _, blocks, rooms = state
    table = [crowd(block, wish, len(blocks)) for block in blocks if block is not None]
    places = all_entries([room for room in rooms if room is not None])
    table.append(crowd([record for record in places if record is not None], wish, len(blocks)))
    return psi(table)


def reads_needed(standing, wish, m):
    """The least number of reads by which any program with m rooms can meet the wish."""
    b = standing[0]
    w = fan_of(standing, m)
    first, last, _ = measured(standing, wish, m, "powers")
    gain = raised(w, w * b)
    loss = raised(w - 1, (w - 1) * b)
    reads = 0
    while first < last:
        first = first * gain
        last = last * loss
        reads += 1
    return reads


def is_reads_paper(standing, wish, m, value):
    """Whether any value is a number that is not more than the reads needed."""
    return is_number(value) and value <= reads_needed(standing, wish, m)
