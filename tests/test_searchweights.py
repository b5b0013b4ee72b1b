"""Point 50: weights of keys and gaps, the lightest search tree, tables."""

import itertools
import time
import unittest

from fewestpours.errors import InvalidPaper, Refused
from fewestpours.searching import gap_visits, key_visits
from fewestpours.searchtrees import is_search_tree
from fewestpours.searchweights import lightest_tree, search_bound, search_table, search_weight
from helpers import WRONG_VALUES, all_in_tuples, broken, drawn_search, nested, rng_of

GREAT = 10 ** 3990


def drawn_weights(rng, n, most):
    """Weights of keys and of gaps."""
    return tuple(rng.randint(0, most) for _ in range(n)), tuple(rng.randint(0, most) for _ in range(n + 1))


def parts_at(low, high, lot):
    """The parts of the gaps from low to high, parted at these keys."""
    return list(zip((low, *[key + 1 for key in lot]), (*lot, high)))


def limits(b, keys, gaps, table):
    """For each low and high the greatest entry that fits to those of fewer gaps."""
    n, found = len(keys), {}
    for low in range(n + 1):
        for high in range(low, n + 1):
            found[low, high] = 0
            if low < high:
                lots = [lot for size in range(1, b + 1) for lot in itertools.combinations(range(low, high), size)]
                weight = sum(gaps[low:high + 1]) + sum(keys[low:high])
                found[low, high] = weight + min(sum(table[begin][end - begin] for begin, end in parts_at(low, high, lot)) for lot in lots)
    return found


def does_fit(b, keys, gaps, table):
    """Whether a table fits."""
    found = limits(b, keys, gaps, table)
    return all(table[low][high - low] <= found[low, high] for low, high in found)


def all_weights(b, keys, gaps):
    """The weights of all search trees."""
    if not keys:
        yield 0
        return
    n = len(keys)
    for size in range(1, min(b, n) + 1):
        for lot in itertools.combinations(range(n), size):
            parts = [list(all_weights(b, keys[begin:end], gaps[begin:end + 1])) for begin, end in parts_at(0, n, lot)]
            for told in itertools.product(*parts):
                yield sum(keys) + sum(gaps) + sum(told)


class WeightsTest(unittest.TestCase):
    def test_search_weight(self):
        rng = rng_of(1)
        self.assertEqual(search_weight((), (), (5,)), 0)
        self.assertEqual(search_weight((((0,), (None, None)),), (3,), (1, 4)), 8)
        for _ in range(300):
            n, b = rng.randint(0, 9), rng.randint(1, 3)
            search = drawn_search(rng, n, b, rng.choice((0, 0.5)))
            keys, gaps = drawn_weights(rng, n, rng.choice((0, 1, 9, GREAT)))
            told = sum(weight * key_visits(search, key) for key, weight in enumerate(keys))
            self.assertEqual(search_weight(search, keys, gaps), told + sum(w * gap_visits(search, gap) for gap, w in enumerate(gaps)))

    def check(self, b, keys, gaps):
        """Ask for a tree and the greatest table, and look at them."""
        tree, table = lightest_tree(b, keys, gaps), search_table(b, keys, gaps)
        n = len(keys)
        self.assertTrue(all_in_tuples(tree) and all_in_tuples(table))
        self.assertIs(is_search_tree(n, b, tree), True)
        self.assertEqual([len(row) for row in table], list(range(n + 1, 0, -1)))
        self.assertEqual(search_weight(tree, keys, gaps), table[0][n])
        self.assertEqual(search_bound(b, keys, gaps, table), table[0][n])
        return table

    def test_examples(self):
        self.assertEqual(search_table(1, (5, 2), (0, 1, 0)), ((0, 6, 11), (0, 3), (0,)))
        self.assertEqual(search_bound(1, (5, 2), (0, 1, 0), ((0, 6, 11), (0, 3), (0,))), 11)
        self.assertEqual(self.check(1, (), (7,)), ((0,),))
        self.assertEqual(self.check(64, (5, 2), (0, 1, 0)), ((0, 6, 8), (0, 3), (0,)))
        self.assertEqual(lightest_tree(2, (5, 2), (0, 1, 0)), (((0, 1), (None, None, None)),))
        self.assertEqual(lightest_tree(3, (), (9,)), ())

    def test_against_all_trees(self):
        rng = rng_of(2)
        for n in range(6):
            for b in (1, 2, 3, 64):
                for most in (0, 1, 5, 100):
                    keys, gaps = drawn_weights(rng, n, most)
                    table = self.check(b, keys, gaps)
                    self.assertEqual(table[0][n], min(all_weights(b, keys, gaps)))
                    for low in range(n + 1):
                        for high in range(low, n + 1):
                            least = min(all_weights(b, keys[low:high], gaps[low:high + 1]))
                            self.assertEqual(table[low][high - low], least)

    def test_no_right_search_weighs_less(self):
        rng = rng_of(3)
        for _ in range(300):
            n, b = rng.randint(0, 9), rng.randint(1, 3)
            keys, gaps = drawn_weights(rng, n, rng.choice((1, 30)))
            search = drawn_search(rng, n, b, rng.choice((0, 0.5)))
            self.assertGreaterEqual(search_weight(search, keys, gaps), search_table(b, keys, gaps)[0][n])

    def test_all_weights_nought(self):
        for n in (1, 5, 40):
            for b in (1, 3, 64):
                table = self.check(b, (0,) * n, (0,) * (n + 1))
                self.assertEqual(set(sum(table, ())), {0})

    def test_greatest_table_fits_just_so(self):
        rng = rng_of(4)
        for _ in range(60):
            n, b = rng.randint(0, 6), rng.randint(1, 4)
            keys, gaps = drawn_weights(rng, n, 9)
            table = search_table(b, keys, gaps)
            found = limits(b, keys, gaps, table)
            self.assertEqual({(low, low + more): entry for low, row in enumerate(table) for more, entry in enumerate(row)}, found)
            for low in range(n + 1):
                for more in range(n + 1 - low):
                    row = table[low][:more] + (table[low][more] + 1,) + table[low][more + 1:]
                    with self.assertRaises(InvalidPaper) as caught:
                        search_bound(b, keys, gaps, table[:low] + (row,) + table[low + 1:])
                    self.assertEqual(caught.exception.at, 1)

    def test_fitting_tables(self):
        rng = rng_of(5)
        counts = [0, 0]
        for _ in range(2500):
            n, b = rng.randint(0, 5), rng.randint(1, 4)
            keys, gaps = drawn_weights(rng, n, 4)
            table = [list(row) for row in search_table(b, keys, gaps)]
            for _ in range(rng.randint(0, 3)):
                row = rng.choice(table)
                row[rng.randrange(len(row))] += rng.choice((-50, -3, -2, -1, -1, 0, 1, 2))
            table = tuple(map(tuple, table))
            fits = does_fit(b, keys, gaps, table)
            counts[fits] += 1
            if fits:
                self.assertEqual(search_bound(b, keys, gaps, table), table[0][-1])
                self.assertLessEqual(table[0][-1], search_table(b, keys, gaps)[0][n])
            else:
                with self.assertRaises(InvalidPaper) as caught:
                    search_bound(b, keys, gaps, table)
                self.assertEqual(caught.exception.at, 1)
        self.assertGreater(min(counts), 500)

    def test_any_value(self):
        for keys, gaps in (((5, 2), (0, 1, 0)), ((), (3,)), ((0,), (0, 0))):
            table = search_table(1, keys, gaps)
            whole = table[0]
            wrong = [table[:-1], table + ((0,),), (whole + (0,),) + table[1:], (whole[:-1],) + table[1:], table[::-1] + ((),), (table,),
                     tuple(map(list, table)), list(table), ((float(whole[0]),) + whole[1:],) + table[1:], ((False,) + whole[1:],) + table[1:]]
            for value in itertools.chain(broken(table), WRONG_VALUES, wrong, (nested(40),)):
                if repr(value) in (repr(other) for other in with_other_entries(table)) or repr(value) == repr(table):
                    continue
                if (keys, value) == ((), ((0,),)) and repr(value) == "((0,),)":
                    continue
                with self.assertRaises(InvalidPaper) as caught:
                    search_bound(1, keys, gaps, value)
                self.assertEqual(caught.exception.at, 0, value)
        self.assertEqual(search_bound(1, (), (3,), ((-7,),)), -7)
        self.assertEqual(search_bound(1, (0,), (0, 0), ((0, -GREAT), (-1,))), -GREAT)
        for table, at in ((((1,),), 1), (((True,),), 0), (((0.0,),), 0), (((None,),), 0), ((), 0), ([[0]], 0)):
            with self.assertRaises(InvalidPaper) as caught:
                search_bound(2, (), (3,), table)
            self.assertEqual(caught.exception.at, at)

    def test_forty_keys_and_one_more(self):
        rng = rng_of(6)
        begin = time.time()
        for b in (1, 2, 5, 39, 40, 64):
            for most in (9, GREAT):
                self.check(b, *drawn_weights(rng, 40, most))
        keys, gaps = drawn_weights(rng, 41, 9)
        calls = [lambda: lightest_tree(2, keys, gaps), lambda: search_table(2, keys, gaps)]
        for value in (None, (), ((1,),), tuple((0,) * more for more in range(42, 0, -1))):
            calls.append(lambda value=value: search_bound(2, keys, gaps, value))
        for call in calls:
            with self.assertRaises(Refused) as caught:
                call()
            self.assertEqual(caught.exception.at, 0)
        self.assertEqual(search_weight((((40,), (None, None)),), keys, gaps), sum(keys) + sum(gaps))
        self.assertLess(time.time() - begin, 60)

    def test_more_keys_in_a_node_weigh_no_more(self):
        rng = rng_of(7)
        for _ in range(30):
            n = rng.randint(1, 10)
            keys, gaps = drawn_weights(rng, n, 20)
            weights = [search_table(b, keys, gaps)[0][n] for b in range(1, n + 3)]
            self.assertEqual(weights, sorted(weights, reverse=True))
            self.assertEqual(weights[n - 1:], [sum(keys) + sum(gaps)] * 3)


def with_other_entries(table):
    """The tables that are made by turning an entry into minus one less itself: these are tables, too."""
    for low, row in enumerate(table):
        for at, entry in enumerate(row):
            yield table[:low] + (row[:at] + (-1 - entry,) + row[at + 1:],) + table[low + 1:]


if __name__ == "__main__":
    unittest.main()
