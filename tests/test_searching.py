"""Points 47 to 49: searches, search trees, visits."""

import functools
import itertools
import time
import unittest

from fewestpours.searching import gap_visits, is_right, is_search, key_visits
from fewestpours.searchtrees import is_search_tree, least_height, least_visits, level_tree, slow_gap, trimmed
from helpers import WRONG_VALUES, all_in_tuples, broken, drawn_search, nested, rng_of

SEARCH = (((1,), (1, 2)), ((0, 1), (None, None, None)), ((0, 2), (None, None, None)))
TREE = (((1,), (1, 2)), ((0,), (None, None)), ((2,), (None, None)))


def walk(search, is_below, is_found):
    """A pair: the nodes read, one behind the other, and the entry at which it stops, None for a key that is found."""
    read, following = [], 0 if search else None
    entry = None
    while following is not None:
        keys, nexts = search[following]
        read.append(following)
        if any(is_found(key) for key in keys):
            return read, None
        entry = sum(1 for key in keys if is_below(key))
        following = nexts[entry]
    return read, entry


def gap_walk(search, gap):
    """The nodes read for a gap, and the entry at which it stops."""
    return walk(search, lambda key: key < gap, lambda key: False)


def key_walk(search, key):
    """The nodes read for a key, and None if it is found."""
    return walk(search, lambda other: other < key, lambda other: other == key)


def is_plainly_right(n, search):
    """Whether no two gaps stop at one place."""
    stops = []
    for gap in range(n + 1):
        read, entry = gap_walk(search, gap)
        stops.append((read[-1] if read else None, entry))
    return len(set(stops)) == n + 1


def is_plainly_tree(n, search):
    """Whether a search is a search tree."""
    keys = [key for node in search for key in node[0]]
    nexts = [later for node in search for later in node[1] if later is not None]
    return is_plainly_right(n, search) and sorted(keys) == list(range(n)) and sorted(nexts) == list(range(1, len(search)))


def drawn_nodes(rng, n, b, many):
    """Some search of so many nodes, of which nothing more is known."""
    nodes = []
    for at in range(many):
        keys = tuple(sorted(rng.sample(range(n), rng.randint(1, min(n, b)))))
        nodes.append((keys, tuple(rng.choice((None, *range(at + 1, many))) for _ in range(len(keys) + 1))))
    return tuple(nodes)


class SearchesTest(unittest.TestCase):
    def test_examples(self):
        self.assertEqual((is_right(3, SEARCH), gap_visits(SEARCH, 3), key_visits(SEARCH, 1)), (True, 2, 1))
        self.assertIs(is_search(3, 2, SEARCH), True)
        self.assertIs(is_search(3, 1, SEARCH), False)
        self.assertIs(is_search(2, 2, SEARCH), False)
        self.assertIs(is_search(3, 2, SEARCH[:2]), False)

    def test_no_node(self):
        for n, b in ((0, 1), (1, 1), (255, 64)):
            self.assertIs(is_search(n, b, ()), True)
            self.assertIs(is_right(n, ()), n == 0)
            self.assertIs(is_search_tree(n, b, ()), n == 0)
        self.assertEqual((gap_visits((), 0), key_visits((), 3)), (0, 0))

    def test_one_node(self):
        self.assertIs(is_search(1, 1, (((0,), (None, None)),)), True)
        self.assertIs(is_search(0, 1, (((0,), (None, None)),)), False)
        self.assertIs(is_search(1, 1, (((), (None,)),)), False)
        self.assertIs(is_search(1, 1, (((0,), (0, None)),)), False)
        self.assertIs(is_search(1, 1, (((0,), (1, None)),)), False)
        whole = ((tuple(range(64)), (None,) * 65),)
        self.assertEqual((is_search(64, 64, whole), is_search(64, 63, whole), is_search(63, 64, whole)), (True, False, False))
        self.assertEqual((is_right(64, whole), is_search_tree(64, 64, whole), is_right(65, whole)), (True, True, False))

    def test_at_most_thousand_nodes(self):
        nodes = tuple(((0,), (None, at)) for at in range(1, 1000)) + (((1,), (None, None)),)
        self.assertIs(is_search(2, 1, nodes), True)
        self.assertEqual((gap_visits(nodes, 0), gap_visits(nodes, 2), key_visits(nodes, 0), key_visits(nodes, 1)), (1, 1000, 1, 1000))
        self.assertIs(is_right(2, nodes), True)
        longer = tuple(((0,), (None, at)) for at in range(1, 1001)) + (((1,), (None, None)),)
        self.assertIs(is_search(2, 1, longer), False)

    def test_any_value(self):
        for n, b, value in ((3, 2, SEARCH), (3, 1, TREE), (1, 1, (((0,), (None, None)),))):
            self.assertIs(is_search(n, b, value), True)
            keys, nexts = value[0]
            wrong = [(value[0] + ((),),) + value[1:], ((keys, nexts + (None,)),) + value[1:], ((keys, nexts[:-1]),) + value[1:], (value,),
                     ((keys + (n,), nexts + (None,)),) + value[1:], ((keys + keys, nexts + keys),) + value[1:], value + ((),),
                     ((keys, (0,) + nexts[1:]),) + value[1:], ((keys, (len(value),) + nexts[1:]),) + value[1:], ((nexts, keys),) + value[1:],
                     ((keys, (-1,) + nexts[1:]),) + value[1:], (((-1,), (None, None)),) + value[1:], value + (value[0],) * 1000]
            for other in itertools.chain(broken(value), WRONG_VALUES, wrong, (nested(40),)):
                if other == () and type(other) is tuple:
                    continue
                if repr(other) in (repr(changed) for changed in nexts_given_up(value)):
                    continue
                self.assertIs(is_search(n, b, other), False, other)
                self.assertIs(is_search_tree(n, b, other), False, other)
        self.assertIs(is_search(2, 1, (((1,), (True, None)), ((0,), (None, None)))), False)
        self.assertIs(is_search(2, 1, (((True,), (1, None)), ((0,), (None, None)))), False)
        self.assertIs(is_search(2, 1, [((1,), (1, None)), ((0,), (None, None))]), False)

    def test_drawn_searches(self):
        rng = rng_of(1)
        rights = 0
        for _ in range(3000):
            n, b = rng.randint(1, 4), rng.randint(1, 3)
            search = drawn_nodes(rng, n, b, rng.randint(1, 5))
            self.assertIs(is_search(n, b, search), True)
            self.assertIs(is_search(n, 1, search), max(len(node[0]) for node in search) == 1)
            self.assertIs(is_right(n, search), is_plainly_right(n, search))
            self.assertIs(is_search_tree(n, b, search), is_plainly_tree(n, search))
            for gap in range(n + 1):
                self.assertEqual(gap_visits(search, gap), len(gap_walk(search, gap)[0]))
            for key in range(n):
                read, entry = key_walk(search, key)
                self.assertEqual(key_visits(search, key), len(read))
                self.assertTrue(entry is None or not is_plainly_right(n, search))
            rights += is_plainly_right(n, search)
        self.assertGreater(rights, 200)


def nexts_given_up(value):
    """A search with one of the later nodes that follow given up: this is a search, too."""
    for at, (keys, nexts) in enumerate(value):
        for entry in range(len(nexts)):
            yield value[:at] + ((keys, nexts[:entry] + (None,) + nexts[entry + 1:]),) + value[at + 1:]


class TreesTest(unittest.TestCase):
    def test_is_search_tree(self):
        self.assertIs(is_search_tree(3, 2, SEARCH), False)
        self.assertIs(is_search_tree(3, 1, TREE), True)
        self.assertIs(is_search_tree(2, 1, TREE), False)
        self.assertIs(is_search_tree(4, 1, TREE), False)
        self.assertIs(is_search_tree(3, 1, TREE + (((0,), (None, None)),)), False)
        self.assertIs(is_search_tree(3, 1, (((1,), (2, 1)), ((2,), (None, None)), ((0,), (None, None)))), True)
        self.assertIs(is_search_tree(2, 1, (((0,), (1, None)), ((1,), (None, None)))), False)
        self.assertIs(is_search_tree(2, 1, (((0,), (None, 1)), ((1,), (None, None)))), True)
        shared = (((1,), (1, 1)), ((0, 2), (None, None, None)))
        self.assertIs(is_right(3, shared), False)
        self.assertIs(is_search_tree(3, 2, shared), False)

    def check(self, n, search):
        """Trim a search, and look at what is left."""
        told = trimmed(n, search)
        b = max([1] + [len(node[0]) for node in search])
        self.assertTrue(all_in_tuples(told))
        self.assertIs(is_search_tree(n, b, told), True)
        self.assertTrue(is_plainly_tree(n, told))
        self.assertLessEqual(max([1] + [len(node[0]) for node in told]), b)
        for gap in range(n + 1):
            self.assertLessEqual(gap_visits(told, gap), gap_visits(search, gap))
        for key in range(n):
            self.assertLessEqual(key_visits(told, key), key_visits(search, key))
        return told

    def test_trimmed(self):
        self.check(3, SEARCH)
        self.assertEqual(self.check(0, ()), ())
        self.assertEqual(self.check(3, TREE), TREE)
        rng = rng_of(2)
        count = 0
        for _ in range(4000):
            n, b = rng.randint(1, 4), rng.randint(1, 3)
            search = drawn_nodes(rng, n, b, rng.randint(1, 5))
            if is_plainly_right(n, search):
                self.check(n, search)
                count += 1
        self.assertGreater(count, 300)
        for _ in range(300):
            n, b = rng.randint(0, 12), rng.randint(1, 4)
            search = drawn_search(rng, n, b, rng.choice((0, 0.3, 0.6)))
            self.assertTrue(is_plainly_right(n, search))
            self.assertIs(is_search(n, b, search), True)
            self.check(n, search)

    def test_slow_gap(self):
        self.assertEqual(slow_gap(3, SEARCH), 0)
        self.assertEqual(slow_gap(0, ()), 0)
        self.assertEqual(slow_gap(2, (((0,), (None, 1)), ((1,), (None, None)))), 1)
        self.assertEqual(slow_gap(2, (((1,), (1, None)), ((0,), (None, None)))), 0)
        rng = rng_of(3)
        for _ in range(500):
            n, b = rng.randint(0, 15), rng.randint(1, 4)
            search = drawn_search(rng, n, b, rng.choice((0, 0.3, 0.6)))
            told = slow_gap(n, search)
            self.assertEqual(told, plain_slow_gap(n, search))
            self.assertGreaterEqual(gap_visits(search, told), least_height(n, b))

    def test_thousand_nodes_soon(self):
        rng = rng_of(4)
        begin = time.time()
        for b in (1, 2, 64):
            for n in (255, 100):
                search = drawn_search(rng, n, b, 0.6)
                while len(search) > 1000:
                    search = drawn_search(rng, n, b, 0.3)
                self.assertIs(is_search(n, b, search) and is_right(n, search), True)
                self.check(n, search)
                self.assertEqual(slow_gap(n, search), plain_slow_gap(n, search))
        for path in (chain_of(255, 745), chain_of(1, 999)):
            n = len(path) and max(key for node in path for key in node[0]) + 1
            self.assertEqual(len(path), 1000)
            self.assertIs(is_right(n, path), True)
            self.assertEqual(len(self.check(n, path)), n)
            self.assertEqual(slow_gap(n, path), plain_slow_gap(n, path))
        self.assertLess(time.time() - begin, 60)


def chain_of(n, more):
    """A search that goes key by key upwards, with so many nodes more ahead, all for key 0."""
    nodes = [((0,), (at + 1, at + 1)) for at in range(more)]
    for key in range(n):
        at = len(nodes)
        nodes.append(((key,), (None, at + 1 if key < n - 1 else None)))
    return tuple(nodes)


def plain_slow_gap(n, search):
    """The gap found by always going on where most gaps are left."""
    left, following = list(range(n + 1)), 0 if search else None
    while following is not None:
        keys, nexts = search[following]
        ways = [[gap for gap in left if sum(1 for key in keys if key < gap) == entry] for entry in range(len(nexts))]
        entry = max(range(len(ways)), key=lambda at: (len(ways[at]), -at))
        left, following = ways[entry], nexts[entry]
    return left[0]


@functools.lru_cache(maxsize=None)
def best_of(n, b, kind):
    """The least height, sum for the gaps, or sum for the keys, of all search trees."""
    if n == 0:
        return 0
    found = []
    for keys in range(1, min(n, b) + 1):
        found.append(shared_out(n - keys, keys + 1, b, kind) + {"height": 1, "gaps": n + 1, "keys": n}[kind])
    return min(found)


@functools.lru_cache(maxsize=None)
def shared_out(n, parts, b, kind):
    """The least that so many subtrees with so many keys together give."""
    if parts == 1:
        return best_of(n, b, kind)
    both = (lambda one, other: max(one, other)) if kind == "height" else (lambda one, other: one + other)
    return min(both(best_of(first, b, kind), shared_out(n - first, parts - 1, b, kind)) for first in range(n + 1))


class VisitsTest(unittest.TestCase):
    def test_examples(self):
        self.assertEqual(least_visits(3, 2), (6, 4))
        self.assertEqual([least_height(n, 1) for n in range(9)], [0, 1, 2, 2, 3, 3, 3, 3, 4])
        self.assertEqual([least_height(n, 2) for n in (0, 1, 2, 3, 8, 9, 26, 27)], [0, 1, 1, 2, 2, 3, 3, 4])
        self.assertEqual((least_height(255, 1), least_height(254, 1), least_height(255, 64), least_height(64, 64)), (8, 8, 2, 1))
        self.assertEqual((least_visits(0, 1), least_visits(1, 1), least_visits(64, 64)), ((0, 0), (2, 1), (65, 64)))

    def test_against_all_trees(self):
        for n in range(21):
            for b in (1, 2, 3, 4, 7):
                self.assertEqual(least_height(n, b), best_of(n, b, "height"))
                self.assertEqual(least_visits(n, b), (best_of(n, b, "gaps"), best_of(n, b, "keys")))

    def test_no_right_search_needs_less(self):
        rng = rng_of(5)
        for _ in range(400):
            n, b = rng.randint(0, 14), rng.randint(1, 4)
            search = drawn_search(rng, n, b, rng.choice((0, 0.5)))
            gaps = [gap_visits(search, gap) for gap in range(n + 1)]
            keys = [key_visits(search, key) for key in range(n)]
            self.assertGreaterEqual(max(gaps), least_height(n, b))
            self.assertGreaterEqual(sum(gaps), least_visits(n, b)[0])
            self.assertGreaterEqual(sum(keys), least_visits(n, b)[1])

    def test_level_tree(self):
        begin = time.time()
        self.assertEqual(level_tree(0, 3), ())
        self.assertEqual(level_tree(2, 3), (((0, 1), (None, None, None)),))
        for n in range(256):
            for b in (1, 2, 3, 4, 7, 15, 16, 63, 64):
                tree = level_tree(n, b)
                self.assertIs(is_search_tree(n, b, tree), True)
                gaps = [gap_visits(tree, gap) for gap in range(n + 1)]
                self.assertEqual(max(gaps), least_height(n, b))
                self.assertEqual((sum(gaps), sum(key_visits(tree, key) for key in range(n))), least_visits(n, b))
        self.assertTrue(all_in_tuples(level_tree(100, 3)) and is_plainly_tree(100, level_tree(100, 3)))
        self.assertLess(time.time() - begin, 60)


if __name__ == "__main__":
    unittest.main()
