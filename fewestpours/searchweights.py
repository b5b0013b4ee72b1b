"""Searches whose keys and gaps have weights: the lightest search tree, and tables that show that none is lighter."""

from fewestpours.basics import is_integer_table
from fewestpours.errors import InvalidPaper, Refused
from fewestpours.searching import gap_visits, key_visits
from fewestpours.searchtrees import grown

MOST_KEYS = 40


def search_weight(search, keys, gaps):
    """All visits, each times its weight, added up."""
    of_keys = sum([weight * key_visits(search, key) for key, weight in enumerate(keys)])
    return of_keys + sum([weight * gap_visits(search, gap) for gap, weight in enumerate(gaps)])


def refuse_many(keys):
    """Refuse more keys than tables are told for."""
    if len(keys) > MOST_KEYS:
        raise Refused(0)


def added_up(weights):
    """A list of the sums of the first weights, from none of them on."""
    sums = [0]
    for weight in weights:
        sums.append(sums[-1] + weight)
    return sums


class Ways:
    """All ways to part gaps, and the least sums of the entries of their parts in a table.

    The entries are told one after another, those of fewer gaps first.
    """

    def __init__(self, b, keys, gaps):
        self.b = b
        self.key_sums = added_up(keys)
        self.gap_sums = added_up(gaps)
        # For each low and high the entry, then the least sum if they are parted at one key at most, at two, and so on.
        self.least_sums = {}

    def sum_with(self, low, high, most):
        """The least sum for the gaps from low to high, parted at so many keys at most."""
        return self.least_sums[(low, high)][min(most, high - low)]

    def sums_by_key(self, low, high, most):
        """For each key at which the gaps may be parted first, a list of the least sums with so many keys at most."""
        return [self.sum_with(low, key, 0) + self.sum_with(key + 1, high, most - 1) for key in range(low, high)]

    def sums_parted(self, low, high):
        """A list of the least sums if the gaps are parted at one key, at one or two, and so on."""
        return [min(self.sums_by_key(low, high, most)) for most in range(1, min(self.b, high - low) + 1)]

    def tell(self, low, high, entry, sums):
        """Tell an entry; the sums are those of its gaps, parted."""
        self.least_sums[(low, high)] = [entry, *[min(entry, parted) for parted in sums]]

    def limit(self, low, high, sums):
        """How great the entry may be in a fitting table."""
        if low == high:
            return 0
        weight = self.gap_sums[high + 1] - self.gap_sums[low] + self.key_sums[high] - self.key_sums[low]
        return weight + sums[-1]

    def parting_keys(self, low, high):
        """A tuple of the keys at which the gaps are parted with the least sum."""
        found = []
        begin = low
        most = self.b
        while not found or self.sum_with(begin, high, most) < self.sum_with(begin, high, 0):
            sums = self.sums_by_key(begin, high, most)
            found.append(begin + sums.index(min(sums)))
            begin = found[-1] + 1
            most -= 1
        return tuple(found)


def spans_of(gaps):
    """A list of all pairs of a low and a high gap, those of fewer gaps first."""
    many = len(gaps)
    return [(low, low + more) for more in range(many) for low in range(many - more)]


def greatest_ways(b, keys, gaps):
    """The ways for the fitting table with the greatest entries."""
    ways = Ways(b, keys, gaps)
    for low, high in spans_of(gaps):
        sums = ways.sums_parted(low, high)
        ways.tell(low, high, ways.limit(low, high, sums), sums)
    return ways


def search_table(b, keys, gaps):
    """The fitting table with the greatest entries."""
    refuse_many(keys)
    ways = greatest_ways(b, keys, gaps)
    many = len(gaps)
    return tuple([tuple([ways.sum_with(low, high, 0) for high in range(low, many)]) for low in range(many)])


def lightest_tree(b, keys, gaps):
    """Some search tree of the least weight of all right searches."""
    refuse_many(keys)
    ways = greatest_ways(b, keys, gaps)

    def parts_of(mark, low, high):
        """The keys of the first node for these gaps."""
        parting = ways.parting_keys(low, high)
        return parting, [mark] * (len(parting) + 1)

    return grown(0, 0, len(keys), parts_of)


def search_bound(b, keys, gaps, value):
    """No right search weighs less than any value, a fitting table, tells for all gaps."""
    refuse_many(keys)
    if not is_integer_table(value, list(range(len(gaps), 0, -1))):
        raise InvalidPaper(0)
    ways = Ways(b, keys, gaps)
    for low, high in spans_of(gaps):
        sums = ways.sums_parted(low, high)
        entry = value[low][high - low]
        if entry > ways.limit(low, high, sums):
            raise InvalidPaper(1)
        ways.tell(low, high, entry, sums)
    return value[0][-1]
