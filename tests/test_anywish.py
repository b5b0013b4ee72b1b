"""Point 33: how many pours are enough, tight rows, rows for any wish."""

import itertools
import time
import unittest

from fewestpours.anywish import linked_lots, row_for, tightened
from fewestpours.below import pours_needed
from fewestpours.digitrows import least_turning
from fewestpours.enough import most_pours
from fewestpours.standings import is_met
from fewestpours.turned import table_standing, turned_wish
from helpers import (
    all_in_tuples,
    distances,
    drawn_row,
    drawn_standing,
    drawn_wish,
    plain_wish,
    plainly_poured,
    played,
    rng_of,
)


def up(x, y):
    """x / y, rounded up."""
    return -(-x // y)


def plain_most(many, m):
    """As many pours as the document tells to be enough."""
    if many <= m:
        return 0 if many == 1 else 1
    ways = []
    for s in range(2, m + 1):
        groups = [min(s, many - at) for at in range(0, many, s)]
        g, r, e = len(groups), groups[-1], sum(1 for size in groups if size > 1)
        within = 2 * up(e, m // s)
        if g <= m:
            ways.append(within + up(r if g == 2 else s, m // g))
        else:
            ways.append(within + r * plain_most(g, m) + (s - r) * plain_most(g - 1, m))
    return min(ways)


def plain_lots(standing, wish):
    """The lots of two or more blocks that hang together."""
    lots = [{at} for at in range(len(standing[1]))]
    for at, block in enumerate(standing[1]):
        for record in block:
            both = [lot for lot in lots if at in lot or wish[record] in lot]
            lots = [lot for lot in lots if lot not in both] + [set().union(*both)]
    return tuple(sorted(tuple(sorted(lot)) for lot in lots if len(lot) > 1))


class EnoughTest(unittest.TestCase):
    def test_most_pours(self):
        self.assertEqual(most_pours(8, 2), 20)
        for m in range(2, 17):
            self.assertEqual(most_pours(1, m), 0)
            for many in range(2, m + 1):
                self.assertEqual(most_pours(many, m), 1)
            self.assertGreater(most_pours(m + 1, m), 1)
            for many in range(1, 90):
                self.assertEqual(most_pours(many, m), plain_most(many, m), (many, m))

    def test_powers_of_m(self):
        for m in range(2, 17):
            for q in range(1, 7 if m == 2 else 4):
                if m ** q <= 4096:
                    self.assertLessEqual(most_pours(m ** q, m), (2 * q - 1) * m ** (q - 1))
                if q > 0 and m ** q <= 64:
                    self.assertLess(most_pours(m ** q, m), 2 * least_turning(m, q, q, q))

    def test_many_blocks(self):
        begin = time.time()
        self.assertEqual(most_pours(10 ** 6, 2), most_pours(10 ** 6, 2))
        most_pours(10 ** 12, 16)
        self.assertLess(time.time() - begin, 10)


class LotsTest(unittest.TestCase):
    def test_linked_lots(self):
        standing = (1, ((0,), (1,), (2,), (), (3,)))
        self.assertEqual(linked_lots(standing, (0, 1, 2, 4)), ())
        self.assertEqual(linked_lots(standing, (1, 0, 2, 4)), ((0, 1),))
        self.assertEqual(linked_lots(standing, (4, 2, 3, 0)), ((0, 4), (1, 2, 3)))
        self.assertEqual(linked_lots((2, ((), ())), ()), ())
        self.assertEqual(linked_lots((2, ((0, 1),)), (0, 0)), ())

    def test_drawn_lots(self):
        rng = rng_of(1)
        for _ in range(500):
            standing = drawn_standing(rng, many=rng.randint(1, 9), b=rng.randint(1, 2))
            wish = drawn_wish(rng, standing) if rng.random() < 0.7 else plain_wish(plainly_drawn(rng, standing, 2))
            told = linked_lots(standing, wish)
            self.assertEqual(told, plain_lots(standing, wish))
            self.assertTrue(all_in_tuples(told))


def plainly_drawn(rng, standing, many):
    """The standing behind so many drawn pours of two blocks."""
    return drawn_row(rng, standing, 2, many)[1]


class Looking(unittest.TestCase):
    def look_at(self, standing, m, row):
        """Whether a row is tight: each pour changes its blocks, and neighbours don't fit together."""
        played(standing, m, row)
        self.assertTrue(all_in_tuples(row))
        for who, parts in row:
            for at, part in zip(who, parts):
                self.assertNotEqual(standing[1][at], part)
            standing = plainly_poured(standing, (who, parts))
        for one, other in itertools.pairwise(row):
            self.assertGreater(len(set(one[0]) | set(other[0])), m)
        return standing


class TightTest(Looking):
    def check(self, standing, m, row):
        """Tighten a row, and look at what is told."""
        told = tightened(standing, m, row)
        self.assertLessEqual(len(told), len(row))
        self.assertEqual(self.look_at(standing, m, told), played(standing, m, row))
        return told

    def test_tightened(self):
        standing = (1, ((0,), (1,), (2,), (3,)))
        one, other = ((0, 1), ((1,), (0,))), ((2, 3), ((3,), (2,)))
        still = ((0, 3), ((0,), (3,)))
        both = ((0, 1, 2, 3), ((1,), (0,), (3,), (2,)))
        self.assertEqual(self.check(standing, 2, ()), ())
        self.assertEqual(self.check(standing, 2, (still,)), ())
        self.assertEqual(self.check(standing, 2, (one,)), (one,))
        self.assertEqual(self.check(standing, 2, (one, other)), (one, other))
        self.assertEqual(self.check(standing, 3, (one, other)), (one, other))
        self.assertEqual(self.check(standing, 4, (one, other)), (both,))
        self.assertEqual(self.check(standing, 2, (one, ((0, 1), ((0,), (1,))))), ())
        self.assertEqual(self.check(standing, 2, (other, one, ((0, 1), ((0,), (1,))))), (other,))
        self.assertEqual(self.check(standing, 2, (one, ((0, 2), ((1,), (2,))), other)), (one, other))

    def test_what_becomes_one_may_fit_to_the_one_ahead(self):
        standing = (1, ((0,), (1,), (2,)))
        turn = (((0, 1), ((1,), (0,))), ((1, 2), ((2,), (0,))), ((1, 2), ((0,), (2,))), ((0, 1), ((0,), (1,))))
        self.assertEqual(self.check(standing, 2, turn), ())

    def test_drawn_rows(self):
        rng = rng_of(2)
        for _ in range(2000):
            m = rng.randint(2, 5)
            standing = drawn_standing(rng, many=rng.randint(1, 7), b=rng.randint(1, 3))
            self.check(standing, m, drawn_row(rng, standing, m, rng.randint(0, 8))[0])

    def test_many_pours(self):
        rng = rng_of(3)
        begin = time.time()
        for m in (2, 5, 16):
            standing = drawn_standing(rng, b=16, many=64, records=1000)
            row, _ = drawn_row(rng, standing, m, 2000)
            self.check(standing, m, row)
        self.assertLess(time.time() - begin, 30)


class RowForTest(Looking):
    def check_row(self, standing, wish, m):
        """Ask for a row that meets a wish, and play it."""
        row = row_for(standing, wish, m)
        self.assertTrue(is_met(self.look_at(standing, m, row), wish))
        sizes = [len(lot) for lot in plain_lots(standing, wish)]
        self.assertLessEqual(len(row), sum(plain_most(size, m) for size in sizes))
        self.assertGreaterEqual((m - 1) * len(row), sum(size - 1 for size in sizes))
        return row

    def test_row_for(self):
        self.assertEqual(self.check_row((1, ((0,), (1,), (2,))), (1, 0, 2), 3), (((0, 1), ((1,), (0,))),))
        self.assertEqual(self.check_row((1, ((0,), (1,), (2,))), (0, 1, 2), 3), ())
        self.assertEqual(self.check_row((2, ((), (), ())), (), 2), ())
        self.assertEqual(self.check_row((3, ((0, 1),)), (0, 0), 2), ())
        self.assertEqual(self.check_row((1, ((0,), (), ())), (2,), 2), (((0, 2), ((), (0,))),))

    def test_small_standings(self):
        for standing in ((1, ((0,), (1,), (2,), (3,))), (2, ((0, 1), (2,), ())), (2, ((0, 1), (2, 3), (4,))),
                         (1, ((0,), (), (1,), (2,), ())), (3, ((0, 1, 2), (3, 4))), (2, ((), (), (), (0, 1)))):
            for m in (2, 3, 4):
                known = distances(standing, m)
                for goal in known:
                    wish = plain_wish(goal)
                    row = self.check_row(standing, wish, m)
                    least = known[goal]
                    self.assertGreaterEqual(len(row), least)
                    self.assertGreaterEqual(len(row), pours_needed(standing, wish, m))
                    sizes = [len(lot) for lot in plain_lots(standing, wish)]
                    if all(size == m for size in sizes) or sum(sizes) <= m:
                        self.assertEqual(len(row), least)

    def test_lots_of_two_and_of_m_blocks(self):
        standing = (1, tuple((at,) for at in range(12)))
        pairs = tuple(at ^ 1 for at in range(12))
        self.assertEqual([len(self.check_row(standing, pairs, m)) for m in (2, 3, 4, 12)], [6, 6, 3, 1])
        for m in (3, 4, 6, 12):
            turned = tuple(at // m * m + (at + 1) % m for at in range(12))
            self.assertEqual(len(self.check_row(standing, turned, m)), 12 // m)

    def test_drawn_standings(self):
        rng = rng_of(4)
        for _ in range(1500):
            standing = drawn_standing(rng, many=rng.randint(1, 20), b=rng.randint(1, 4))
            wish = drawn_wish(rng, standing)
            if rng.random() < 0.3:
                wish = plain_wish(plainly_drawn(rng, standing, rng.randint(0, 4)))
            self.check_row(standing, wish, rng.choice((2, 2, 3, 4, 5, 7, 16)))

    def test_each_number_of_blocks(self):
        rng = rng_of(5)
        for many in (*range(2, 30), 32, 33, 36, 48, 49, 63, 64):
            for m in range(2, 17):
                standing = (2, tuple((at, many + at) for at in range(many)))
                wish = tuple((at + 1) % many for at in range(many)) + tuple(rng.sample(range(many), many))
                self.check_row(standing, wish, m)

    def test_many_records_soon(self):
        rng = rng_of(6)
        begin = time.time()
        for m in range(2, 17):
            for b, records in ((16, 1024), (64, 1024), (17, 1000)):
                standing = drawn_standing(rng, b=b, many=64, records=records)
                self.check_row(standing, drawn_wish(rng, standing), m)
        self.check_row((64, (tuple(range(64)),) + ((),) * 63), tuple(range(64)), 2)
        self.assertLess(time.time() - begin, 30)

    def test_turned_tables(self):
        for m, k in ((2, 2), (2, 3), (2, 4), (3, 2), (4, 2), (16, 1)):
            standing, wish = table_standing(m ** k, m ** k, m ** k), turned_wish(m ** k, m ** k, m ** k)
            row = self.check_row(standing, wish, m)
            self.assertGreaterEqual(len(row), least_turning(m, k, k, k))
            self.assertLess(len(row), 2 * least_turning(m, k, k, k))

    def test_what_is_handed_in_stays(self):
        standing, wish = (2, ((0, 1), (2, 3), (4,))), (1, 2, 0, 0, 2)
        kept = repr((standing, wish))
        self.assertEqual(row_for(standing, wish, 2), row_for(standing, wish, 2))
        self.assertEqual(repr((standing, wish)), kept)


if __name__ == "__main__":
    unittest.main()
