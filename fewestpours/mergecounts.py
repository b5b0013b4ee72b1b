"""How many reads any program needs that merges by comparing."""

from math import comb


def orders_of_runs(runs, b):
    """In how many ways the records of the runs can lie in one another in the end."""
    together = 0
    orders = 1
    for length in runs:
        together += length * b
        orders = orders * comb(together, length * b)
    return orders


def answers_of_read(m, b):
    """In how many ways b records in order can lie among (m - 1) * b others in order."""
    return comb(m * b, b)


def reads_below(runs, b, m):
    """The least number of reads whose answers together are at least as many as the orders."""
    orders = orders_of_runs(runs, b)
    # The powers of the answers for 1, 2, 4 reads and so on, as long as they are too few; then some are put together.
    powers = []
    answers = answers_of_read(m, b)
    while answers < orders:
        powers.append(answers)
        answers = answers * answers
    reads = 0
    reached = 1
    for power in powers[::-1]:
        reads = reads * 2
        if reached * power < orders:
            reached = reached * power
            reads += 1
    return reads + 1 if reached < orders else reads
