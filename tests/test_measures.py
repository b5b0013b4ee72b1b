"""Points 19 to 23: powers, trees, least depths, best partings, what a pour gains."""

import functools
import itertools
import math
import time
import unittest

from fewestpours.depths import depth_potential, least_depths
from fewestpours.depthtrees import best_tree, depth_sum, end_count, is_tree, parted
from fewestpours.gains import depth_gain, is_full, poured_count, psi_pair
from fewestpours.partings import best_parting, is_best_parting
from fewestpours.powers import power, psi
from fewestpours.standings import crowds
from helpers import (
    WRONG_VALUES,
    all_in_tuples,
    all_pours,
    broken,
    drawn_pour,
    drawn_standing,
    drawn_wish,
    nested,
    plainly_poured,
    rng_of,
    split,
)


def numbers_adding_up(total, many, least=1):
    """All ascending rows of so many numbers from least on that add up to the total, equal ones as often as they come."""
    if many == 1:
        if total >= least:
            yield (total,)
        return
    for first in range(least, total // many + 1):
        for others in numbers_adding_up(total - first, many - 1, first):
            yield (first,) + others


@functools.lru_cache(None)
def plain_least(x, m):
    """The least sum of depths, by all partings."""
    if x < 2:
        return 0
    return x + min(sum(plain_least(part, m) for part in parts)
                   for many in range(2, min(m, x) + 1) for parts in numbers_adding_up(x, many))


class PowersTest(unittest.TestCase):
    def test_power(self):
        self.assertEqual([power(x) for x in range(6)], [1, 1, 4, 27, 256, 3125])
        for x in (17, 100, 1000, 1023, 1024):
            self.assertEqual(power(x), x ** x)

    def test_psi(self):
        self.assertEqual(psi(()), 1)
        self.assertEqual(psi(((), ())), 1)
        self.assertEqual(psi(((2, 0), (1, 3))), 108)
        self.assertEqual(psi(((3,), (3, 3), (0, 2))), 27 ** 3 * 4)
        self.assertEqual(psi(((1024, 1024), (512, 0))), 1024 ** 2048 * 512 ** 512)
        rng = rng_of(1)
        for _ in range(100):
            table = tuple(tuple(rng.randint(0, 9) for _ in range(rng.randint(0, 5))) for _ in range(rng.randint(0, 5)))
            self.assertEqual(psi(table), math.prod(x ** x for row in table for x in row))

    def test_facts(self):
        for total in range(1, 13):
            for many in range(1, total + 1):
                for parts in numbers_adding_up(total, many):
                    product = psi((parts,))
                    self.assertLessEqual(power(total), many ** total * product)
                    self.assertIs(power(total) == many ** total * product, len(set(parts)) == 1)
                    self.assertGreaterEqual(power(total), product)
                    self.assertIs(power(total) == product, many == 1)


class TreesTest(unittest.TestCase):
    def test_trees(self):
        for m, tree, ends, depths in ((2, (), 1, 0), (2, ((), ()), 2, 2), (2, ((), ((), ())), 3, 5), (16, ((),) * 16, 16, 16),
                                      (3, (((), ()), (), ((), (), ())), 6, 11)):
            self.assertIs(is_tree(m, tree), True)
            self.assertEqual((end_count(tree), depth_sum(tree)), (ends, depths))
            for wrong in itertools.chain(broken(tree)):
                self.assertIs(is_tree(m, wrong), False, wrong)
        for m, value in ((2, ((),)), (2, ((), (), ())), (2, ((), ((),))), (3, ((),) * 4), (16, ((),) * 17), (2, ((), 0)),
                         (2, ((), None)), (2, ((), "")), (2, "()"), (2, [(), ()]), (2, ((), [])), (2, nested(2000))):
            self.assertIs(is_tree(m, value), False)
        for value in WRONG_VALUES:
            self.assertIs(is_tree(2, value), type(value) is tuple and value in ((), ((), ())), value)

    def test_deep_trees(self):
        tree = ()
        for depth in range(1, 51):
            tree = (tree, ())
            self.assertEqual((end_count(tree), depth_sum(tree)), (depth + 1, depth * (depth + 3) // 2))
        self.assertIs(is_tree(2, tree), True)
        marks = tuple(at % 3 for at in range(51))
        parts = parted(tree, marks, 3)
        self.assertEqual([end_count(part) for part in parts], [17, 17, 17])
        for _ in range(3000):
            tree = (tree, ())
        self.assertIs(is_tree(2, tree), True)
        self.assertIs(is_tree(2, ((), tree + ((),))), False)

    def test_best_tree(self):
        for m in range(2, 17):
            for x in [*range(1, 60), 255, 256, 257, 1023, 1024]:
                tree = best_tree(x, m)
                self.assertIs(is_tree(m, tree), True)
                self.assertEqual((end_count(tree), depth_sum(tree)), (x, least_depths(x, m)))

    def test_parted(self):
        self.assertEqual(parted((), (0,), 1), ((),))
        self.assertEqual(parted((), (1,), 3), (None, (), None))
        self.assertEqual(parted(((), ((), ())), (0, 1, 0), 3), (((), ()), (), None))
        self.assertEqual(parted(((), ((), ())), (0, 0, 0), 1), (((), ((), ())),))
        self.assertEqual(parted((((), ()), ((), (), ())), (0, 1, 1, 1, 0), 2), (((), ()), ((), ((), ()))))
        self.assertEqual(parted(((), ((), ())), (1, 0, 0), 2), (((), ()), ()))
        rng = rng_of(2)
        for _ in range(200):
            m = rng.randint(2, 4)
            tree = drawn_tree(rng, m, 4)
            many = rng.randint(1, 4)
            marks = tuple(rng.randrange(many) for _ in range(end_count(tree)))
            parts = parted(tree, marks, many)
            self.assertEqual(parts, tuple(plain_part(tree, list(marks), mark) for mark in range(many)))
            self.assertTrue(all_in_tuples(parts))
            left = [part for part in parts if part is not None]
            self.assertEqual([0 if part is None else end_count(part) for part in parts], list(map(marks.count, range(many))))
            self.assertTrue(all(is_tree(m, part) for part in left))
            self.assertLessEqual(sum(map(depth_sum, left)), depth_sum(tree))

    def test_put_into_one_tuple(self):
        rng = rng_of(3)
        for _ in range(50):
            trees = tuple(drawn_tree(rng, 4, 3) for _ in range(rng.randint(2, 4)))
            ends = sum(map(end_count, trees))
            self.assertEqual((end_count(trees), depth_sum(trees)), (ends, sum(map(depth_sum, trees)) + ends))


def drawn_tree(rng, m, deep):
    """Some tree."""
    if deep == 0 or rng.random() < 0.3:
        return ()
    return tuple(drawn_tree(rng, m, deep - 1) for _ in range(rng.randint(2, m)))


def plain_part(tree, marks, mark):
    """What is left of a tree if just the ends with one mark are kept; their marks are taken off the list."""
    if tree == ():
        return () if marks.pop(0) == mark else None
    left = [part for part in [plain_part(entry, marks, mark) for entry in tree] if part is not None]
    if len(left) > 1:
        return tuple(left)
    return left[0] if left else None


class DepthsTest(unittest.TestCase):
    def test_against_all_partings(self):
        for m in (2, 3, 4, 5, 7, 16):
            for x in range(26):
                self.assertEqual(least_depths(x, m), plain_least(x, m), (x, m))

    def test_large_and_edges(self):
        self.assertEqual((least_depths(0, 2), least_depths(1, 2), least_depths(2, 2), least_depths(3, 2)), (0, 0, 2, 5))
        self.assertEqual((least_depths(1024, 2), least_depths(1023, 2), least_depths(1024, 16)), (10240, 10229, 2868))
        for m in range(2, 17):
            for level in range(5):
                full = m ** level
                self.assertEqual(least_depths(full, m), level * full)
                self.assertEqual(least_depths(full + 1, m), level * full + level + 2)
            for x in range(1, 1025):
                level = max(level for level in range(11) if m ** level <= x)
                more = x - m ** level
                self.assertEqual(least_depths(x, m), level * x + more + -(-more // (m - 1)))

    def test_facts(self):
        for m in (2, 3, 4):
            for total in range(1, 16):
                for many in range(1, m + 1):
                    for parts in numbers_adding_up(total, many):
                        together = sum(least_depths(part, m) for part in parts)
                        self.assertLessEqual(together, least_depths(total, m))
                        self.assertLessEqual(least_depths(total, m), together + total)
            for x in range(70):
                self.assertLessEqual(x ** x, m ** least_depths(x, m))
                is_even = x == 0 or any(m ** level == x for level in range(8))
                self.assertIs(x ** x == m ** least_depths(x, m), is_even)

    def test_depth_potential(self):
        self.assertEqual(depth_potential((), 2), 0)
        self.assertEqual(depth_potential(((), (0,)), 2), 0)
        self.assertEqual(depth_potential(((2, 0), (1, 3)), 2), 7)
        self.assertEqual(depth_potential(((5, 5), (5,)), 3), 24)


class PartingsTest(unittest.TestCase):
    def test_against_all(self):
        for m in (2, 3, 4, 5):
            for total in range(2, 20):
                for many in range(1, m + 2):
                    for parts in numbers_adding_up(total, many):
                        fits = 2 <= many <= m and plain_least(total, m) == sum(plain_least(x, m) for x in parts) + total
                        self.assertIs(is_best_parting(m, parts), fits)
                        self.assertIs(is_best_parting(m, parts[::-1]), fits)

    def test_any_value(self):
        self.assertIs(is_best_parting(2, (2, 3)), True)
        for value in itertools.chain(broken((2, 3)), broken((1, 1)), ((), (2,), (0, 2), (2, 0), (1, 1, 1), ((1, 1),), (1, -1))):
            self.assertIs(is_best_parting(2, value), False, value)
        for value in WRONG_VALUES + (nested(2000), (nested(40), 1)):
            self.assertIs(is_best_parting(2, value), False, value)
            self.assertIs(is_best_parting(2, (1, value)), type(value) is int and value == 1, value)
        for value in ((0, 1, 1), (1, 1, 0), (0, 0), (0, 0, 0), (0, 3), (True, 1, 1)):
            self.assertIs(is_best_parting(3, value), False, value)
        self.assertIs(is_best_parting(16, (1,) * 16), True)
        self.assertIs(is_best_parting(16, (1,) * 17), False)
        self.assertIs(is_best_parting(2, (10 ** 3999, 10 ** 3999)), True)
        self.assertIs(is_best_parting(2, (10 ** 3999, 1)), False)

    def test_best_parting(self):
        for m in range(2, 17):
            for x in range(2, 1025):
                parts = best_parting(x, m)
                self.assertTrue(all_in_tuples(parts))
                self.assertEqual(sum(parts), x)
                self.assertIs(is_best_parting(m, parts), True)
        for m in range(2, 17):
            for level in (1, 2, 3):
                if m ** level <= 1024:
                    self.assertEqual(best_parting(m ** level, m), (m ** (level - 1),) * m)

    def test_with_two(self):
        for one in range(1, 70):
            for other in range(1, 70):
                fits = any(2 ** k <= min(one, other) and 2 ** (k + 1) >= max(one, other) for k in range(8))
                self.assertIs(is_best_parting(2, (one, other)), fits)


class GainsTest(unittest.TestCase):
    def test_drawn_pours(self):
        rng = rng_of(4)
        for _ in range(400):
            standing = drawn_standing(rng, rng.randint(1, 9), rng.randint(2, 5))
            wish = drawn_wish(rng, standing)
            m = rng.randint(2, 5)
            self.look_at(standing, wish, m, drawn_pour(rng, standing, m))

    def test_all_pours_of_small_standings(self):
        for standing, wish in (((2, ((0, 1), (2, 3), ())), (0, 1, 0, 1)), ((2, ((0, 1), (2,), (3,))), (1, 1, 0, 0))):
            full = [pour for pour in all_pours(standing, 3) if self.look_at(standing, wish, 3, pour)]
            self.assertTrue(full)
        self.assertIs(is_full((1, ((), ())), (), 2, ((0, 1), ((), ()))), True)

    def look_at(self, standing, wish, m, pour):
        """Look at what a pour gains; whether it is full."""
        later = plainly_poured(standing, pour)
        ahead, behind = crowds(standing, wish), crowds(later, wish)
        many = sum(len(standing[1][at]) for at in pour[0])
        gain = sum(least_depths(x, m) for row in behind for x in row) - sum(least_depths(x, m) for row in ahead for x in row)
        self.assertEqual(poured_count(standing, pour), many)
        self.assertEqual(depth_gain(standing, wish, m, pour), gain)
        self.assertEqual(psi_pair(standing, wish, m, pour), (psi(ahead), psi(behind)))
        self.assertLessEqual(abs(gain), many)
        self.assertLessEqual(psi(behind), len(pour[0]) ** many * psi(ahead))
        self.assertLessEqual(psi(ahead), len(pour[0]) ** many * psi(behind))
        full = True
        for goal in set(wish):
            before = tuple(ahead[at][goal] for at in pour[0] if ahead[at][goal])
            after = [behind[at][goal] for at in pour[0]]
            if before:
                full = full and is_best_parting(m, before)
                full = full and sum(least_depths(x, m) for x in after) == least_depths(sum(after), m)
        self.assertIs(is_full(standing, wish, m, pour), full)
        self.assertIs(full, gain == many)
        return full


class LargeTest(unittest.TestCase):
    def test_large(self):
        rng = rng_of(5)
        begun = time.time()
        standing = (64, split(rng, range(1024), 64, 64))
        wish = drawn_wish(rng, standing)
        for _ in range(50):
            pour = drawn_pour(rng, standing, 16)
            self.assertLessEqual(abs(depth_gain(standing, wish, 16, pour)), poured_count(standing, pour))
            ahead, behind = psi_pair(standing, wish, 16, pour)
            self.assertLessEqual(behind, ahead * 16 ** poured_count(standing, pour))
        self.assertEqual(psi(((1,) * 64,) * 64), 1)
        self.assertEqual(depth_potential(((16,) * 64,) * 64, 16), 4096 * 16)
        tree = best_tree(1024, 2)
        self.assertEqual([end_count(part) for part in parted(tree, tuple(range(1024)), 1024)], [1] * 1024)
        self.assertLess(time.time() - begun, 10)


if __name__ == "__main__":
    unittest.main()
