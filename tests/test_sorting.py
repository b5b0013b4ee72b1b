"""Points 56 and 57: sorting from below, and by runs."""

import math
import time
import unittest

from fewestpours.mergecounts import answers_of_read
from fewestpours.merging import is_plan, least_cost, least_plan
from fewestpours.sorting import first_runs, sort_reads, sort_reads_below, sorted_run
from helpers import all_in_tuples, rng_of


def plain_below(n, b, m):
    """The least number of reads, one after another."""
    reads, told = 0, math.factorial(b) ** n
    while told < math.factorial(n * b):
        told *= math.comb(m * b, b)
        reads += 1
    return reads


class BelowTest(unittest.TestCase):
    def test_examples(self):
        self.assertEqual((sort_reads_below(2, 2, 2), sort_reads_below(4, 1, 3)), (1, 3))

    def test_plain_counts(self):
        for n in (*range(1, 14), 30, 59, 60):
            for b in (1, 2, 3, 7):
                for m in (2, 3, 4, 16):
                    self.assertEqual(sort_reads_below(n, b, m), plain_below(n, b, m), (n, b, m))

    def test_edges(self):
        for b in (1, 2, 64):
            for m in (2, 3, 16):
                # One block needs no read by this count; two full ones that fit into the room together need one.
                self.assertEqual((sort_reads_below(1, b, m), sort_reads_below(2, b, m)), (0, 1))
        # With one record in a block a read tells one of m answers at most.
        self.assertEqual(sort_reads_below(9, 1, 2), 19)
        self.assertEqual(answers_of_read(2, 1), 2)

    def test_never_above_what_is_enough(self):
        for n in range(1, 61):
            for b in (1, 2, 5, 64):
                for m in (3, 4, 16):
                    self.assertLessEqual(sort_reads_below(n, b, m), sort_reads(n, m))

    def test_within_seconds(self):
        start = time.monotonic()
        for m in (2, 3, 16):
            told = sort_reads_below(60, 64, m)
            orders, first, answers = math.factorial(3840), math.factorial(64) ** 60, math.comb(m * 64, 64)
            self.assertTrue(first * answers ** (told - 1) < orders <= first * answers ** told)
        self.assertLess(time.monotonic() - start, 10)


class RunsTest(unittest.TestCase):
    def test_first_runs(self):
        self.assertEqual(first_runs(7, 3), (3, 3, 1))
        for n in range(1, 61):
            for m in (3, 4, 15, 16):
                told = first_runs(n, m)
                self.assertTrue(all_in_tuples(told))
                self.assertEqual(told[:-1], (m,) * ((n - 1) // m))
                self.assertEqual((sum(told), 1 <= told[-1] <= m), (n, True))
        self.assertEqual((first_runs(1, 3), first_runs(60, 16), first_runs(16, 16)), ((1,), (16, 16, 16, 12), (16,)))

    def test_reads(self):
        self.assertEqual(sort_reads(7, 3), 18)
        self.assertEqual((sort_reads(1, 3), sort_reads(3, 3), sort_reads(16, 16), sort_reads(17, 16)), (1, 3, 16, 34))
        for n in range(1, 61):
            for m in (3, 4, 16):
                self.assertEqual(sort_reads(n, m), n + least_cost(first_runs(n, m), m - 1))

    def look_at(self, words, b, m):
        """Look at what is told of sorting these words, and count the reads."""
        told = sorted_run(words, b, m)
        self.assertTrue(all_in_tuples(told))
        ordered, first, later = told
        n = len(words) // b
        self.assertEqual(ordered, tuple(sorted(words)))
        self.assertEqual(first, tuple(tuple(sorted(words[at:at + m * b])) for at in range(0, n * b, m * b)))
        self.assertEqual(tuple(len(run) // b for run in first), first_runs(n, m))
        plan = least_plan(first_runs(n, m), m - 1)
        self.assertTrue(is_plan(first_runs(n, m), m - 1, plan))
        runs = list(first)
        for merge in plan:
            self.assertLessEqual(len(merge), m - 1)
            runs.append(tuple(sorted(word for number in merge for word in runs[number])))
        self.assertEqual(later, tuple(runs[len(first):]))
        self.assertEqual(runs[-1], ordered)
        # All blocks are read once, then those of each merge: so many reads are enough.
        self.assertEqual(n + sum(len(run) // b for run in later), sort_reads(n, m))

    def test_sorted_runs(self):
        rng = rng_of(57)
        self.assertEqual(sorted_run((3, 1, 2), 1, 3), ((1, 2, 3), ((1, 2, 3),), ()))
        self.assertEqual(sorted_run((4, 3, 2, 1), 1, 3), ((1, 2, 3, 4), ((2, 3, 4), (1,)), ((1, 2, 3, 4),)))
        self.assertEqual(sorted_run((5, 5, 5, 5, 5), 1, 3), ((5,) * 5, ((5,) * 3, (5,) * 2), ((5,) * 5,)))
        for n in (1, 2, 3, 4, 5, 7, 9, 10, 13, 28):
            for b in (1, 2, 5):
                for m in (3, 4, 16):
                    self.look_at(tuple(rng.randint(-9, 9) for _ in range(n * b)), b, m)
                    self.look_at(tuple(rng.sample(range(n * b), n * b)), b, m)
        self.look_at((10 ** 3000, -(10 ** 3000), 0, 0), 2, 3)

    def test_within_seconds(self):
        rng = rng_of(58)
        start = time.monotonic()
        for m in (3, 16):
            self.look_at(tuple(rng.sample(range(3840), 3840)), 64, m)
        self.assertLess(time.monotonic() - start, 10)


if __name__ == "__main__":
    unittest.main()
