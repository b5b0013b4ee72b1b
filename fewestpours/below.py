"""Bounds from below: so many pours any row needs at least."""

from fewestpours.depths import depth_potential
from fewestpours.powers import psi, raised
from fewestpours.standings import crowds

MEASURES = ("powers", "depths", "powers back", "depths back")


def fan_of(standing, m):
    """How many blocks a pour of at most m can have; with one block it counts as 2."""
    return max(2, min(m, len(standing[1])))


def is_by_powers(measure):
    """Whether a measure goes by powers; the others go by depths."""
    return measure in ("powers", "powers back")


def counts_at_end(standing, wish, measure):
    """A tuple of how many records wish each block, or, back, how many lie in each."""
    if measure in ("powers back", "depths back"):
        return tuple([len(block) for block in standing[1]])
    wishers = [0] * len(standing[1])
    for goal in wish:
        wishers[goal] += 1
    return tuple(wishers)


def measured(standing, wish, m, measure):
    """A triple: the measure of the crowds, that where the wish is met, and what a pour gains at most."""
    b = standing[0]
    w = fan_of(standing, m)
    last = (counts_at_end(standing, wish, measure),)
    if is_by_powers(measure):
        return psi(crowds(standing, wish)), psi(last), raised(w, w * b)
    return depth_potential(crowds(standing, wish), w), depth_potential(last, w), w * b


def factors_needed(first, last, most):
    """The least number of factors most that take first up to last."""
    count = 0
    reached = first
    while reached < last:
        reached = reached * most
        count += 1
    return count


def summands_needed(first, last, most):
    """The least number of summands most that take first up to last."""
    return (max(0, last - first) + most - 1) // most


def bound_by(standing, wish, m, measure):
    """The least number of pours that can take the measure up to where the wish is met."""
    first, last, most = measured(standing, wish, m, measure)
    if is_by_powers(measure):
        return factors_needed(first, last, most)
    return summands_needed(first, last, most)


def pours_needed(standing, wish, m):
    """The greatest bound of all measures: no row of fewer pours of at most m blocks meets the wish."""
    return max([bound_by(standing, wish, m, measure) for measure in MEASURES])
