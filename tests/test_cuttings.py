"""Point 51: given trees, cut into blocks."""

import itertools
import time
import unittest

from fewestpours.cuttings import cut_bound, cut_table, cut_visits, cut_weight, lightest_cut, shallow_cut
from fewestpours.errors import InvalidPaper
from helpers import WRONG_VALUES, all_in_tuples, broken, nested, rng_of

GREAT = 10 ** 3990


def drawn_tree(rng, many):
    """Some tree: a path, a star, or anything between."""
    kind = rng.choice(("path", "star", "near", "any", "any", "two"))
    parents = [None]
    for node in range(1, many):
        first = {"path": node - 1, "star": 0, "near": max(0, node - 3), "any": 0, "two": (node - 1) // 2}[kind]
        parents.append(rng.randint(first, node - 1) if kind in ("near", "any") else first)
    return tuple(parents)


def plain_visits(parents, cut, node):
    """How many blocks are visited on the way to a node."""
    count = 1
    while parents[node] is not None:
        count += cut[node] != cut[parents[node]]
        node = parents[node]
    return count


def plain_weight(parents, weights, cut):
    """The weight of a cut."""
    return sum(weight * plain_visits(parents, cut, node) for node, weight in enumerate(weights))


def all_cuts(many, b, told=()):
    """All cuts with at most b nodes in a block, also those whose blocks do not hang together."""
    if len(told) == many:
        yield told
        return
    for block in range(max(told, default=-1) + 2):
        if told.count(block) < b:
            yield from all_cuts(many, b, told + (block,))


def limits(b, parents, weights, table):
    """For each node and s the greatest integer that fits to those of its sons, by all ways to give them numbers."""
    below = list(weights)
    for node in range(len(parents) - 1, 0, -1):
        below[parents[node]] += below[node]
    found = []
    for node in range(len(parents)):
        sons = [son for son in range(len(parents)) if parents[son] == node]
        sums = {}
        for gets in itertools.product(range(b), repeat=len(sons)):
            told = sum(table[son][t - 1] if t else below[son] + table[son][-1] for son, t in zip(sons, gets))
            sums[sum(gets)] = min(told, sums.get(sum(gets), told))
        found.append([min(told for total, told in sums.items() if total < s) for s in range(1, b + 1)])
    return found


def does_fit(b, parents, weights, table):
    """Whether a table fits."""
    return all(entry <= most for row, mosts in zip(table, limits(b, parents, weights, table)) for entry, most in zip(row, mosts))


class CutsTest(unittest.TestCase):
    def test_visits(self):
        parents = (None, 0, 0, 1, 3)
        self.assertEqual([cut_visits(parents, (0, 0, 0, 0, 0), node) for node in range(5)], [1] * 5)
        self.assertEqual([cut_visits(parents, (0, 1, 2, 3, 4), node) for node in range(5)], [1, 2, 2, 3, 4])
        self.assertEqual([cut_visits(parents, (7, 9, 7, 7, 7), node) for node in range(5)], [1, 2, 1, 3, 3])
        self.assertEqual(cut_weight(parents, (1, 10, 100, 1000, 10000), (7, 9, 7, 7, 7)), 1 + 20 + 100 + 3000 + 30000)
        self.assertEqual((cut_visits((None,), (3,), 0), cut_weight((None,), (5,), (3,))), (1, 5))
        rng = rng_of(1)
        for _ in range(300):
            parents = drawn_tree(rng, rng.randint(1, 12))
            cut = tuple(rng.randint(0, 3) for _ in parents)
            weights = tuple(rng.choice((0, 1, 7, GREAT)) for _ in parents)
            for node in range(len(parents)):
                self.assertEqual(cut_visits(parents, cut, node), plain_visits(parents, cut, node))
            self.assertEqual(cut_weight(parents, weights, cut), plain_weight(parents, weights, cut))

    def look_at(self, b, parents, cut):
        """Whether this is a cut with at most b nodes in a block."""
        self.assertTrue(all_in_tuples(cut))
        self.assertEqual(len(cut), len(parents))
        self.assertGreaterEqual(min(cut), 0)
        self.assertLessEqual(max(map(cut.count, cut)), b)

    def check(self, b, parents, weights):
        """Ask for a cut and the greatest table, and look at them."""
        cut, table = lightest_cut(b, parents, weights), cut_table(b, parents, weights)
        self.look_at(b, parents, cut)
        self.assertTrue(all_in_tuples(table))
        self.assertEqual([len(row) for row in table], [b] * len(parents))
        self.assertEqual(cut_bound(b, parents, weights, table), sum(weights) + table[0][-1])
        self.assertEqual(plain_weight(parents, weights, cut), sum(weights) + table[0][-1])
        return table

    def test_examples(self):
        path = (None, 0, 1, 2)
        self.assertEqual(self.check(1, path, (1, 1, 1, 1)), ((6,), (3,), (1,), (0,)))
        self.assertEqual(self.check(2, path, (1, 1, 1, 1)), ((4, 2), (2, 1), (1, 0), (0, 0)))
        self.assertEqual(self.check(4, path, (1, 1, 1, 1))[0], (3, 2, 1, 0))
        self.assertEqual(self.check(9, path, (1, 1, 1, 1))[0], (3, 2, 1, 0, 0, 0, 0, 0, 0))
        self.assertEqual(self.check(2, (None, 0, 0, 0), (0, 3, 9, 4))[0], (16, 7))
        self.assertEqual(self.check(3, (None,), (8,)), ((0, 0, 0),))
        self.assertEqual((lightest_cut(1, (None,), (8,)), shallow_cut(1, (None,))), (lightest_cut(64, (None,), (0,)), shallow_cut(64, (None,))))

    def test_against_all_cuts(self):
        rng = rng_of(2)
        for many in range(1, 8):
            for b in (1, 2, 3, 8):
                cuts = list(all_cuts(many, b))
                for _ in range(5):
                    parents = drawn_tree(rng, many)
                    weights = tuple(rng.choice((0, 1, 2, 9)) for _ in parents)
                    table = self.check(b, parents, weights)
                    least = min(plain_weight(parents, weights, cut) for cut in cuts)
                    self.assertEqual(sum(weights) + table[0][-1], least)
                    cut = shallow_cut(b, parents)
                    self.look_at(b, parents, cut)
                    height = max(plain_visits(parents, cut, node) for node in range(many))
                    self.assertEqual(height, min(max(plain_visits(parents, other, node) for node in range(many)) for other in cuts))

    def test_shallow_cuts(self):
        rng = rng_of(3)
        self.assertEqual(max(cut_visits((None, 0, 1, 2, 3), shallow_cut(2, (None, 0, 1, 2, 3)), node) for node in range(5)), 3)
        for many in (8, 9):
            for b in (2, 3, 4):
                cuts = list(all_cuts(many, b))
                for _ in range(3):
                    parents = drawn_tree(rng, many)
                    cut = shallow_cut(b, parents)
                    self.look_at(b, parents, cut)
                    ends = [node for node in range(many) if node not in parents]
                    height = max(plain_visits(parents, cut, node) for node in ends)
                    for other in cuts:
                        if all(plain_visits(parents, other, node) < height for node in ends):
                            self.fail((parents, b, cut, other))
        for many in (1, 40, 255):
            for b in (1, 2, 16, 64):
                star, path = (None,) + (0,) * (many - 1), (None, *range(many - 1))
                told = [max(cut_visits(tree, shallow_cut(b, tree), node) for node in range(many)) for tree in (star, path)]
                self.assertEqual(told, [1 if many <= b else 2, -(-many // b)])

    def test_greatest_table_fits_just_so(self):
        rng = rng_of(4)
        for _ in range(80):
            parents, b = drawn_tree(rng, rng.randint(1, 5)), rng.randint(1, 4)
            weights = tuple(rng.randint(0, 5) for _ in parents)
            table = cut_table(b, parents, weights)
            self.assertEqual([list(row) for row in table], limits(b, parents, weights, table))
            for node, row in enumerate(table):
                for at in range(b):
                    more = row[:at] + (row[at] + 1,) + row[at + 1:]
                    with self.assertRaises(InvalidPaper) as caught:
                        cut_bound(b, parents, weights, table[:node] + (more,) + table[node + 1:])
                    self.assertEqual(caught.exception.at, 1)

    def test_fitting_tables(self):
        rng = rng_of(5)
        counts = [0, 0]
        for _ in range(2500):
            parents, b = drawn_tree(rng, rng.randint(1, 5)), rng.randint(1, 4)
            weights = tuple(rng.randint(0, 3) for _ in parents)
            table = [list(row) for row in cut_table(b, parents, weights)]
            for _ in range(rng.randint(0, 3)):
                rng.choice(table)[rng.randrange(b)] += rng.choice((-40, -2, -1, -1, 0, 1, 3))
            table = tuple(map(tuple, table))
            fits = does_fit(b, parents, weights, table)
            counts[fits] += 1
            if fits:
                told = cut_bound(b, parents, weights, table)
                self.assertEqual(told, sum(weights) + table[0][-1])
                self.assertLessEqual(told, plain_weight(parents, weights, lightest_cut(b, parents, weights)))
            else:
                with self.assertRaises(InvalidPaper) as caught:
                    cut_bound(b, parents, weights, table)
                self.assertEqual(caught.exception.at, 1)
        self.assertGreater(min(counts), 500)

    def test_any_value(self):
        for b, parents, weights in ((2, (None, 0, 0), (1, 2, 3)), (1, (None,), (4,)), (3, (None, 0), (0, 0))):
            table = cut_table(b, parents, weights)
            first = table[0]
            wrong = [table[:-1], table + table[-1:], (first + (0,),) + table[1:], (first[:-1],) + table[1:], (table,), list(table),
                     tuple(map(list, table)), ((True,) + first[1:],) + table[1:], ((float(first[0]),) + first[1:],) + table[1:]]
            tables = [repr(table)]
            for node, row in enumerate(table):
                tables.extend(repr(table[:node] + (row[:at] + (-1 - row[at],) + row[at + 1:],) + table[node + 1:]) for at in range(b))
            for value in itertools.chain(broken(table), WRONG_VALUES, wrong, (nested(40),)):
                if repr(value) not in tables:
                    with self.assertRaises(InvalidPaper) as caught:
                        cut_bound(b, parents, weights, value)
                    self.assertEqual(caught.exception.at, 0, value)
        self.assertEqual(cut_bound(1, (None,), (4,), ((-9,),)), -5)
        self.assertEqual(cut_bound(2, (None,), (4,), ((-9, -GREAT),)), 4 - GREAT)
        for value, at in ((((1,),), 1), (((True,),), 0), (((0.0,),), 0), (((),), 0), ((), 0), (((0, 0),), 0), ([(0,)], 0), (None, 0)):
            with self.assertRaises(InvalidPaper) as caught:
                cut_bound(1, (None,), (4,), value)
            self.assertEqual(caught.exception.at, at)

    def test_weights_of_nought(self):
        rng = rng_of(6)
        for _ in range(50):
            parents = drawn_tree(rng, rng.randint(1, 30))
            table = self.check(rng.choice((1, 3, 40)), parents, (0,) * len(parents))
            self.assertEqual(set(sum(table, ())), {0})

    def test_many_nodes_soon(self):
        rng = rng_of(7)
        begin = time.time()
        for _ in range(6):
            for b in (1, 2, 7, 64):
                parents = drawn_tree(rng, 255)
                for most in (5, GREAT):
                    self.check(b, parents, tuple(rng.randint(0, most) for _ in parents))
                self.look_at(b, parents, shallow_cut(b, parents))
        for parents in ((None, *range(254)), (None,) + (0,) * 254):
            self.check(64, parents, tuple(rng.randint(0, 100) for _ in parents))
            self.check(300, parents, tuple(rng.randint(0, 100) for _ in parents))
        self.assertLess(time.time() - begin, 120)


if __name__ == "__main__":
    unittest.main()
