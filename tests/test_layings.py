"""Points 52 and 53: ways, layings, visits, and that no size can be had for less."""

import itertools
import time
import unittest

from fewestpours.depths import least_depths
from fewestpours.depthtrees import is_tree
from fewestpours.layingvisits import is_laying, visit_sum, visits, way
from fewestpours.partingtrees import is_parting_tree, least_worst, parting_tree
from helpers import WRONG_VALUES, all_in_tuples, broken, nested, plain_ends, plain_visits, plain_way, rng_of


def drawn_laying(rng, h):
    """Some laying."""
    return tuple(rng.sample(range(2 ** h - 1), 2 ** h - 1))


def all_shifts(sizes):
    """All pairs of one of these sizes and a shift for it."""
    return [(b, shift) for b in sizes for shift in range(b)]


class LayingsTest(unittest.TestCase):
    def test_ways(self):
        self.assertEqual(way(3, 5), (0, 2, 5))
        self.assertEqual((way(1, 0), way(1, 1)), ((0,), (0,)))
        for h in range(1, 9):
            for end in range(2 ** h):
                self.assertEqual(way(h, end), plain_way(h, end))
            self.assertEqual(way(h, 0), tuple(2 ** row - 1 for row in range(h)))
            self.assertEqual(way(h, 2 ** h - 1), tuple(2 ** (row + 1) - 2 for row in range(h)))

    def test_which_are_layings(self):
        for h in (1, 2):
            nodes = range(2 ** h)
            for size in range(2 ** h + 1):
                for value in itertools.product(nodes, repeat=size):
                    self.assertIs(is_laying(h, value), sorted(value) == list(range(2 ** h - 1)), value)
        rng = rng_of(52)
        for h in range(1, 9):
            laying = drawn_laying(rng, h)
            self.assertIs(is_laying(h, laying), True)
            at = rng.randrange(len(laying))
            for wrong in (laying[:-1], laying + (0,), laying + (len(laying),), laying[:at] + (len(laying),) + laying[at + 1:],
                          laying[:at] + (-1,) + laying[at + 1:], list(laying), (laying,), laying[:at] + laying[at + 1:] + laying[:1]):
                self.assertIs(is_laying(h, wrong), len(laying) == 1 and wrong == (0,), wrong)

    def test_any_value(self):
        for h, laying in ((1, (0,)), (2, (1, 0, 2)), (3, (3, 1, 4, 0, 2, 6, 5))):
            for value in itertools.chain(broken(laying), WRONG_VALUES, (nested(40), tuple(map(bool, laying)), (False, True, 2))):
                self.assertIs(is_laying(h, value), value == (0,) and h == 1 and type(value[0]) is int, value)

    def test_visits_by_lists_of_blocks(self):
        self.assertEqual(visits(2, (1, 0, 2), 2, 0), (1, 1, 2, 2))
        self.assertEqual(visits(2, (1, 0, 2), 2, 1), (2, 2, 1, 1))
        rng = rng_of(53)
        for h in range(1, 6):
            for _ in range(3):
                laying = drawn_laying(rng, h)
                for b, shift in all_shifts({1, 2, 3, 2 ** h - 2, 2 ** h - 1, 2 ** h, 255} - {0}):
                    told = visits(h, laying, b, shift)
                    self.assertEqual(told, plain_visits(h, laying, b, shift))
                    self.assertTrue(all_in_tuples(told))

    def test_edges(self):
        for b, shift in ((1, 0), (2, 1), (255, 0), (255, 254)):
            self.assertEqual(visits(1, (0,), b, shift), (1, 1))
        self.assertEqual(visit_sum(1, (0,), 1), 2)
        self.assertEqual(visit_sum(1, (0,), 255), 510)
        rng = rng_of(54)
        for h in range(1, 9):
            laying = drawn_laying(rng, h)
            # With blocks of one node each node of a way is a visit.
            self.assertEqual(visits(h, laying, 1, 0), (h,) * 2 ** h)
            if h < 9:
                self.assertEqual(visits(h, laying, 255, 0), (1,) * 2 ** h)
        self.assertEqual(set(visits(8, tuple(range(255)), 255, 254)), {2})

    def test_sums(self):
        self.assertEqual(visit_sum(2, (1, 0, 2), 2), 12)
        rng = rng_of(55)
        for h in range(1, 6):
            laying = drawn_laying(rng, h)
            for b in range(1, 2 ** h + 3):
                self.assertEqual(visit_sum(h, laying, b), sum(sum(plain_visits(h, laying, b, shift)) for shift in range(b)))


class PartingTest(unittest.TestCase):
    def test_least_worst(self):
        self.assertEqual((least_worst(4, 3), least_worst(8, 15)), (2, 2))
        for h in range(1, 9):
            for b in range(1, 256):
                told = least_worst(h, b)
                self.assertTrue((b + 1) ** told >= 2 ** h > (b + 1) ** (told - 1))
        self.assertEqual((least_worst(1, 1), least_worst(8, 1), least_worst(8, 254), least_worst(8, 255)), (1, 8, 2, 1))

    def look_at(self, h, laying, b, shift):
        """Look at the parting tree told, in the test's own way."""
        tree = parting_tree(h, laying, b, shift)
        ends, most = plain_ends(tree), plain_visits(h, laying, b, shift)
        self.assertTrue(is_tree(b + 1, tree) and all_in_tuples(tree))
        self.assertEqual(len(ends), 2 ** h)
        self.assertTrue(all(depth <= told for depth, told in zip(ends, most)), (laying, b, shift))
        self.assertIs(is_parting_tree(h, laying, b, shift, tree), True)
        # So no laying falls below what holds for trees.
        self.assertGreaterEqual(max(most), least_worst(h, b))
        self.assertGreaterEqual(sum(most), least_depths(2 ** h, b + 1))

    def test_there_always_is_one(self):
        self.assertEqual(parting_tree(2, (0, 1, 2), 2, 0), ((), (), ((), ())))
        for h in (1, 2):
            for laying in itertools.permutations(range(2 ** h - 1)):
                for b, shift in all_shifts(range(1, 5)):
                    self.look_at(h, laying, b, shift)
        rng = rng_of(56)
        for h in (3, 3, 3, 4, 4, 5, 6):
            laying = drawn_laying(rng, h)
            for b, shift in all_shifts({1, 2, 3, 4, 5, 7, 2 ** h - 1}):
                self.look_at(h, laying, b, shift)
        for b, shift in ((1, 0), (2, 0), (2, 1), (15, 7), (100, 99), (127, 3), (254, 200), (255, 0), (255, 254)):
            self.look_at(8, drawn_laying(rng, 8), b, shift)

    def test_which_are_parting_trees(self):
        def all_trees(fan, ends):
            """All trees of this fan with so many ends."""
            if ends == 1:
                yield ()
            for parts in range(2, min(fan, ends) + 1):
                for cuts in itertools.combinations(range(1, ends), parts - 1):
                    sizes = [high - low for low, high in zip((0, *cuts), (*cuts, ends))]
                    yield from itertools.product(*(list(all_trees(fan, size)) for size in sizes))

        for laying in itertools.permutations(range(3)):
            for b, shift in all_shifts(range(1, 4)):
                most = plain_visits(2, laying, b, shift)
                for ends in (3, 4, 5):
                    for tree in all_trees(5, ends):
                        well = ends == 4 and is_tree(b + 1, tree) and all(one <= other for one, other in zip(plain_ends(tree), most))
                        self.assertIs(is_parting_tree(2, laying, b, shift, tree), well, (laying, b, shift, tree))

    def test_any_value(self):
        laying = (1, 0, 2)
        tree = parting_tree(2, laying, 2, 0)
        self.assertEqual(tree, (((), ()), (), ()) if tree[0] else tree)
        count = 0
        for value in itertools.chain(broken(tree), WRONG_VALUES, (nested(40), (), ((),), ((), ()), ((),) * 4, tree + ((),), [(), (), ((), ())])):
            self.assertIs(is_parting_tree(2, laying, 2, 0, value), False, value)
            count += 1
        self.assertGreater(count, 50)
        self.assertIs(is_parting_tree(2, laying, 3, 0, ((),) * 4), True)
        self.assertIs(is_parting_tree(1, (0,), 1, 0, ((), ())), True)
        self.assertIs(is_parting_tree(1, (0,), 1, 0, ()), False)

    def test_the_order_of_the_ends_counts(self):
        # The visits are 1, 1, 2, 2: the ends that are nearer stand to the left.
        self.assertIs(is_parting_tree(2, (1, 0, 2), 2, 0, ((), (), ((), ()))), True)
        self.assertIs(is_parting_tree(2, (1, 0, 2), 2, 0, (((), ()), (), ())), False)
        self.assertIs(is_parting_tree(2, (1, 0, 2), 2, 1, (((), ()), (), ())), True)

    def test_within_seconds(self):
        laying = drawn_laying(rng_of(57), 8)
        start = time.monotonic()
        for b in range(1, 256):
            for shift in range(b):
                visits(8, laying, b, shift)
        self.assertLess(time.monotonic() - start, 30)
        start = time.monotonic()
        self.assertEqual(visit_sum(8, laying, 255), sum(sum(visits(8, laying, 255, shift)) for shift in range(255)))
        for b in (1, 2, 3, 60, 255):
            self.assertIs(is_parting_tree(8, laying, b, b - 1, parting_tree(8, laying, b, b - 1)), True)
        self.assertLess(time.monotonic() - start, 10)


if __name__ == "__main__":
    unittest.main()
