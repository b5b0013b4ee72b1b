"""The measure in powers."""


def raised(base, times):
    """A number taken so many times as a factor, by squares, as an exponent that varies is not written."""
    product = 1
    factor = base
    left = times
    while left > 0:
        if left % 2 == 1:
            product = product * factor
        left = left // 2
        if left > 0:
            factor = factor * factor
    return product


def power(x):
    """x ** x."""
    return raised(x, x)


def psi(table):
    """The product of the powers of all numbers in the table."""
    counts = {}
    for row in table:
        for x in row:
            counts[x] = counts.get(x, 0) + 1
    product = 1
    for x in counts:
        product = product * raised(x, x * counts[x])
    return product
