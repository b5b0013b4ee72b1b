"""Point 71: rounds, settled rows, exchanges, and rows put together."""

import itertools
import time
import unittest

from fewestpours.pours import behind
from fewestpours.rounds import are_exchanges, put_together, rounds_of, settled
from helpers import all_in_tuples, drawn_row, drawn_standing, played, rng_of


def plain_rounds(row):
    """The round of each pour."""
    found = []
    for at, (who, _) in enumerate(row):
        found.append(max([found[before] + 1 for before in range(at) if set(row[before][0]) & set(who)], default=0))
    return tuple(found)


def all_exchanges(row):
    """All rows that come of exchanging neighbours that are apart, again and again."""
    found, waiting = {row}, [row]
    for told in waiting:
        for at in range(len(told) - 1):
            if not set(told[at][0]) & set(told[at + 1][0]):
                other = told[:at] + (told[at + 1], told[at]) + told[at + 2:]
                if other not in found:
                    found.add(other)
                    waiting.append(other)
    return found


def plainly_put_together(row, m):
    """The row put together, pour by pour."""
    there = []
    for pour in row:
        while there and len(set(there[-1][0]) | set(pour[0])) <= m:
            parts = {**dict(zip(*there.pop())), **dict(zip(*pour))}
            pour = (tuple(sorted(parts)), tuple(parts[at] for at in sorted(parts)))
        there.append(pour)
    return tuple(there)


ROW = (((0, 1), ((1,), (0,))), ((2, 3), ((3,), (2,))), ((1, 2), ((3,), (0,))))


class RoundsTest(unittest.TestCase):
    def test_examples(self):
        self.assertEqual((rounds_of(ROW), are_exchanges(ROW, (ROW[1], ROW[0], ROW[2]))), ((0, 0, 1), True))
        self.assertEqual(put_together(ROW, 3), (((0, 1), ((1,), (0,))), ((1, 2, 3), ((3,), (0,), (2,)))))

    def test_rows_without_pours(self):
        self.assertEqual((rounds_of(()), settled(()), put_together((), 2), put_together((), 16)), ((), (), (), ()))
        self.assertIs(are_exchanges((), ()), True)
        self.assertIs(are_exchanges((), ROW[:1]), False)

    def test_rounds(self):
        rng = rng_of(71)
        for _ in range(200):
            standing = drawn_standing(rng, many=rng.randint(2, 7))
            row, last = drawn_row(rng, standing, rng.randint(2, 4), rng.randint(0, 9))
            told, order = rounds_of(row), settled(row)
            self.assertEqual(told, plain_rounds(row))
            self.assertEqual(order, tuple(row[at] for at in sorted(range(len(row)), key=lambda at: (told[at], row[at]))))
            self.assertTrue(all_in_tuples(told) and all_in_tuples(order))
            # A settled row leads to the same standing, and stays as it is.
            self.assertEqual(played(standing, 4, order), last)
            self.assertEqual((settled(order), rounds_of(order)), (order, tuple(sorted(told))))
            for one, other in itertools.combinations(range(len(row)), 2):
                self.assertTrue(told[one] != told[other] or not set(row[one][0]) & set(row[other][0]))

    def test_no_way_has_fewer_rounds(self):
        rng = rng_of(72)
        for _ in range(40):
            standing = drawn_standing(rng, many=rng.randint(3, 5), b=1)
            row, _ = drawn_row(rng, standing, 2, rng.randint(1, 5))
            # All ways to give the pours times at which all of them are apart, those that are not keeping their order.
            fewest = max(rounds_of(row)) + 1
            for times in itertools.product(range(fewest - 1), repeat=len(row)):
                self.assertFalse(all(times[one] < times[other] for one, other in itertools.combinations(range(len(row)), 2)
                                     if set(row[one][0]) & set(row[other][0])))

    def test_exchanges_of_neighbours(self):
        rng = rng_of(73)
        for _ in range(60):
            standing = drawn_standing(rng, many=rng.randint(2, 6), b=rng.randint(1, 2))
            row, last = drawn_row(rng, standing, 2, rng.randint(0, 6))
            like = all_exchanges(row)
            for other in itertools.islice(like, 200):
                self.assertIs(are_exchanges(row, other), True)
                self.assertEqual(behind(standing, 2, other), last)
            for other in itertools.islice(itertools.permutations(row), 100):
                self.assertIs(are_exchanges(row, other), other in like)
            others, _ = drawn_row(rng, standing, 2, len(row))
            self.assertIs(are_exchanges(row, others), others in like)

    def test_put_together(self):
        rng = rng_of(74)
        for _ in range(300):
            standing = drawn_standing(rng, many=rng.randint(2, 7))
            m = rng.randint(2, 4)
            row, last = drawn_row(rng, standing, m, rng.randint(0, 9))
            for more in (m, m + 1, 7, 16):
                told = put_together(row, more)
                self.assertEqual(told, plainly_put_together(row, more))
                self.assertEqual(played(standing, more, told), last)
                self.assertLessEqual(len(told), len(row))
                self.assertTrue(all(len(set(one[0]) | set(other[0])) > more for one, other in zip(told, told[1:])))
                self.assertTrue(all_in_tuples(told))
            # With m from the number of blocks on all becomes one pour.
            self.assertLessEqual(len(put_together(row, max(7, m))), 1)

    def test_within_seconds(self):
        rng = rng_of(75)
        standing = drawn_standing(rng, b=16, many=64, records=1024)
        start = time.monotonic()
        for m in (2, 5, 16):
            row, last = drawn_row(rng, standing, m, 500)
            self.assertEqual(rounds_of(row), plain_rounds(row))
            self.assertEqual(put_together(row, 16), plainly_put_together(row, 16))
            self.assertEqual(behind(standing, 16, put_together(row, 16)), last)
            self.assertIs(are_exchanges(row, settled(row)), True)
        self.assertLess(time.monotonic() - start, 30)


if __name__ == "__main__":
    unittest.main()
