"""Papers that show by one adding up how many pours are needed at least."""

from fewestpours.basics import is_number, is_tuple_of
from fewestpours.below import MEASURES, bound_by


def paper_below(standing, wish, m):
    """The pair of the first measure with the greatest bound, and this bound."""
    bounds = [bound_by(standing, wish, m, measure) for measure in MEASURES]
    greatest = max(bounds)
    return MEASURES[bounds.index(greatest)], greatest


def is_paper_below(standing, wish, m, value):
    """Whether any value is a pair of a measure and a number that is not more than its bound."""
    if not is_tuple_of(value, 2):
        return False
    measure, number = value
    if not isinstance(measure, str) or measure not in MEASURES or not is_number(number):
        return False
    return number <= bound_by(standing, wish, m, measure)
