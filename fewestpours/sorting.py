"""Sorting full blocks: how many reads any program needs, and how many are enough."""

from fewestpours.basics import all_entries
from fewestpours.mergecounts import reads_below
from fewestpours.merging import least_cost, least_plan


def sort_reads_below(n, b, m):
    """So many reads at least has any program that sorts n blocks of b records by comparing."""
    # A first read of a block tells the order of its own records, too; so the blocks count as runs of one block each.
    return reads_below((1,) * n, b, m)


def first_runs(n, m):
    """The lengths of the runs that are made by sorting m blocks at a time in the room."""
    return tuple([min(m, n - at) for at in range(0, n, m)])


def sort_reads(n, m):
    """So many reads are enough to sort n blocks."""
    return n + least_cost(first_runs(n, m), m - 1)


def sorted_run(words, b, m):
    """A triple: the words in order; the first runs, and the later ones, each as its words in order."""
    lengths = first_runs(len(words) // b, m)
    runs = []
    begin = 0
    for length in lengths:
        runs.append(tuple(sorted(words[begin:begin + length * b])))
        begin += length * b
    for merge in least_plan(lengths, m - 1):
        runs.append(tuple(sorted(all_entries([runs[number] for number in merge]))))
    return tuple(sorted(words)), tuple(runs[:len(lengths)]), tuple(runs[len(lengths):])
