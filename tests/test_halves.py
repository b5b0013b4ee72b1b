"""Points 54 and 55: the laying by halves, papers of runs, layings for one size and for all."""

import itertools
import time
import unittest

from fewestpours.halves import halves_laying, halves_runs, run_paper
from fewestpours.layingvisits import is_laying, visit_sum, visits
from fewestpours.manysizes import best_sizes, level_laying, tuned_laying
from fewestpours.partingtrees import least_worst
from helpers import WRONG_VALUES, all_in_tuples, broken, nested, plain_visits, plain_way, rng_of


def tree_rows(top, rows):
    """The nodes of the tree of so many rows below a node, row by row."""
    found = [[top]]
    for _ in range(rows - 1):
        found.append([son for node in found[-1] for son in (2 * node + 1, 2 * node + 2)])
    return found


def plain_halves(top, rows):
    """The parts of the laying by halves, as nested lists."""
    if rows == 1:
        return [top]
    lower = max(power for power in (1, 2, 4) if power < rows)
    last = tree_rows(top, rows - lower + 1)[-1]
    return [plain_halves(top, rows - lower)] + [plain_halves(node, lower) for node in last]


def flat(parts):
    """All that stands in nested lists."""
    return [parts] if type(parts) is int else [node for part in parts for node in flat(part)]


def plain_tuned(top, rows, a):
    """The nodes of a tuned laying."""
    upper = rows % a or a
    all_rows = tree_rows(top, rows)
    below = all_rows[upper] if upper < rows else []
    return [node for other in below for node in plain_tuned(other, rows - upper, a)] + flat(all_rows[:upper])


def plain_s(b):
    """The greatest power of 2 such that 2 ** s - 1 is at most b."""
    return max(s for s in (1, 2, 4, 8, 16) if 2 ** s - 1 <= b)


def plain_run_paper(h, laying, value):
    """What a paper of runs tells."""
    lies_in, place = {}, 0
    for run, length in enumerate(value):
        for node in laying[place:place + length]:
            lies_in[node] = run
        place += length
    return 2 * max(len({lies_in[node] for node in plain_way(h, end)}) for end in range(2 ** h))


def all_runs(total, b):
    """All tuples of numbers from 1 to b with this sum."""
    if total == 0:
        yield ()
    for first in range(1, min(total, b) + 1):
        for others in all_runs(total - first, b):
            yield (first,) + others


class HalvesTest(unittest.TestCase):
    def test_layings(self):
        self.assertEqual(halves_laying(1), (0,))
        self.assertEqual(halves_laying(2), (0, 1, 2))
        self.assertEqual(halves_laying(3), (0, 1, 3, 4, 2, 5, 6))
        self.assertEqual(halves_laying(4), (0, 1, 2, 3, 7, 8, 4, 9, 10, 5, 11, 12, 6, 13, 14))
        for h in range(1, 9):
            told = halves_laying(h)
            self.assertEqual(told, tuple(flat(plain_halves(0, h))))
            self.assertTrue(is_laying(h, told) and all_in_tuples(told))

    def test_runs(self):
        self.assertEqual(halves_runs(3, 3), (1, 3, 3))
        self.assertEqual(halves_runs(4, 3), (3, 3, 3, 3, 3))
        self.assertEqual(halves_runs(5, 14), (1,) + (3,) * 10)
        self.assertEqual(halves_runs(5, 15), (1, 15, 15))
        for h in range(1, 9):
            self.assertEqual((halves_runs(h, 1), halves_runs(h, 2)), ((1,) * (2 ** h - 1),) * 2)
            self.assertEqual(halves_runs(h, 255), (2 ** h - 1,))
            for b in range(1, 256):
                s, c = plain_s(b), -(-h // plain_s(b))
                runs = halves_runs(h, b)
                self.assertTrue(all_in_tuples(runs) and all(1 <= length <= min(b, 2 ** s - 1) for length in runs))
                self.assertEqual(sum(runs), 2 ** h - 1)
                self.assertEqual(run_paper(h, halves_laying(h), b, runs), 2 * c)
                self.assertEqual(plain_run_paper(h, halves_laying(h), runs), 2 * c)
                self.assertLessEqual(2 * c, 4 * least_worst(h, b))
                # Each run is a tree of its own.
                place = 0
                for length in runs:
                    nodes = halves_laying(h)[place:place + length]
                    self.assertEqual(sorted(nodes), sorted(flat(tree_rows(nodes[0], length.bit_length()))))
                    place += length

    def test_no_end_has_more_visits(self):
        for h in (1, 2, 3, 4, 5):
            laying = halves_laying(h)
            for b in [*range(1, 2 ** h + 2), 255]:
                s, c = plain_s(b), -(-h // plain_s(b))
                for shift in range(b):
                    self.assertLessEqual(max(plain_visits(h, laying, b, shift)), 2 * c)
                self.assertLessEqual(visit_sum(h, laying, b), 2 ** h * c * (b + 2 ** s - 2))
        for h in (6, 7, 8):
            laying = halves_laying(h)
            for b in (1, 2, 3, 4, 7, 14, 15, 16, 31, 63, 127, 254, 255):
                s, c = plain_s(b), -(-h // plain_s(b))
                for shift in {0, 1, b // 2, b - 1} & set(range(b)):
                    self.assertLessEqual(max(visits(h, laying, b, shift)), 2 * c)
                self.assertLessEqual(visit_sum(h, laying, b), 2 ** h * c * (b + 2 ** s - 2))

    def test_papers_of_runs(self):
        rng = rng_of(58)
        for h, b in ((1, 1), (1, 3), (2, 1), (2, 2), (2, 3), (3, 3), (3, 7), (3, 255)):
            for _ in range(3):
                laying = tuple(rng.sample(range(2 ** h - 1), 2 ** h - 1))
                for value in all_runs(2 ** h - 1, b):
                    told = run_paper(h, laying, b, value)
                    self.assertEqual(told, plain_run_paper(h, laying, value))
                    # No end has more visits, whatever the shift.
                    for shift in range(min(b, 8)):
                        self.assertLessEqual(max(plain_visits(h, laying, b, shift)), told)

    def test_any_value(self):
        laying = halves_laying(3)
        self.assertEqual(run_paper(3, laying, 3, (1, 3, 3)), 4)
        self.assertEqual(run_paper(3, laying, 7, (7,)), 2)
        wrong = ((1, 3, 2), (1, 3, 3, 1), (1, 3, 3, 0), (0, 1, 3, 3), (1, 2, 4), (7,), (8, -1), (3, 3, 3, -2), (1, 3, (3,)), [1, 3, 3], ())
        for value in itertools.chain(broken((1, 3, 3)), WRONG_VALUES, wrong, (nested(40), (True, 3, 3), (1,) * 8, (1,) * 6)):
            self.assertIsNone(run_paper(3, laying, 3, value), value)
        self.assertIsNone(run_paper(1, (0,), 1, ()))
        self.assertIsNone(run_paper(1, (0,), 1, (True,)))
        self.assertEqual(run_paper(1, (0,), 1, (1,)), 2)
        self.assertIsNone(run_paper(3, laying, 2, (1, 3, 3)))


class SizesTest(unittest.TestCase):
    def test_levels(self):
        self.assertEqual((level_laying(1), level_laying(3)), ((0,), (0, 1, 2, 3, 4, 5, 6)))
        for h in range(1, 9):
            told = level_laying(h)
            self.assertEqual(told, tuple(range(2 ** h - 1)))
            for b in range(1, 256):
                a = max(a for a in range(1, 9) if 2 ** a - 1 <= b)
                self.assertEqual(max(visits(h, told, b, 0)), 1 if b >= 2 ** h - 1 else h - a + 1)

    def test_tuned(self):
        self.assertEqual(tuned_laying(3, 2), (1, 3, 4, 2, 5, 6, 0))
        self.assertEqual((tuned_laying(1, 1), tuned_laying(2, 2), tuned_laying(2, 1)), ((0,), (0, 1, 2), (1, 2, 0)))
        self.assertEqual(tuned_laying(3, 1), (3, 4, 1, 5, 6, 2, 0))
        for h in range(1, 9):
            self.assertEqual(tuned_laying(h, h), level_laying(h))
            for a in range(1, h + 1):
                told = tuned_laying(h, a)
                self.assertTrue(is_laying(h, told) and all_in_tuples(told))
                self.assertEqual(told, tuple(plain_tuned(0, h, a)))
                # For its own size each end has as few visits as can be.
                self.assertEqual(set(visits(h, told, 2 ** a - 1, 0)), {-(-h // a)})
                self.assertEqual(least_worst(h, 2 ** a - 1), -(-h // a))
                self.assertIn(2 ** a - 1, best_sizes(h, told))

    def test_best_sizes(self):
        self.assertEqual(best_sizes(3, tuned_laying(3, 2)), (1, 3, 4, 5, 6, 7))
        self.assertEqual(best_sizes(3, level_laying(3)), (1, 3, 4, 5, 6, 7))
        self.assertEqual(best_sizes(1, (0,)), (1,))
        rng = rng_of(59)
        for h in (1, 2, 2, 3, 3, 4, 5):
            laying = tuple(rng.sample(range(2 ** h - 1), 2 ** h - 1))
            for told in (laying, halves_laying(h)):
                self.assertEqual(best_sizes(h, told), tuple(b for b in range(1, 2 ** h) if max(plain_visits(h, told, b, 0)) == least_worst(h, b)))
        self.assertTrue(all_in_tuples(best_sizes(4, level_laying(4))))

    def test_no_laying_is_best_for_all(self):
        self.assertIn(3, best_sizes(4, tuned_laying(4, 2)))
        self.assertIn(4, best_sizes(4, (0, 1, 2, 3, 4, 9, 10, 7, 5, 11, 12, 8, 6, 13, 14)))
        # Best for 3 are just the layings of these five blocks, and their nodes may be turned in each of them; for 4 it
        # matters only which one of the second block comes first, and which one of the third block comes last.
        blocks = ((0, 1, 2), (3, 7, 8), (4, 9, 10), (5, 11, 12), (6, 13, 14))
        for order in itertools.permutations(blocks):
            for one, other in itertools.product(range(3), repeat=2):
                laid = [list(block) for block in order]
                laid[1].insert(0, laid[1].pop(one))
                laid[2].append(laid[2].pop(other))
                told = best_sizes(4, tuple(flat(laid)))
                self.assertIn(3, told)
                self.assertNotIn(4, told)

    def test_within_seconds(self):
        start = time.monotonic()
        for laying in (halves_laying(8), level_laying(8), tuned_laying(8, 3)):
            told = best_sizes(8, laying)
            self.assertEqual((told[0], told[-1]), (1, 255))
            visit_sum(8, laying, 255)
        self.assertLess(time.monotonic() - start, 10)


if __name__ == "__main__":
    unittest.main()
