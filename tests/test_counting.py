"""Points 68 to 70: shares, most are far, spread."""

import itertools
import math
import time
import unittest

from fewestpours.counting import far_at_least, pour_most, rare_within, share_count, within_most
from fewestpours.errors import Refused
from fewestpours.spread import farthest, spread
from fewestpours.standings import is_wish
from helpers import all_in_tuples, all_partings, all_pours, distances, drawn_standing, plain_wish, plainly_poured, rng_of


def plain_share_count(b, many, records):
    """In how many ways records can lie in blocks, one block after another."""
    ways = [1] + [0] * records
    for _ in range(many):
        ways = [sum(math.comb(all_of, own) * ways[all_of - own] for own in range(min(b, all_of) + 1)) for all_of in range(records + 1)]
    return ways[records]


def small_kinds():
    """Small numbers of places, of blocks, of records, and m."""
    for b, many, m in itertools.product((1, 2, 3, 4), (1, 2, 3, 4), (2, 3, 4, 16)):
        for records in range(min(b * many, 6) + 1):
            yield b, many, records, m


class SharesTest(unittest.TestCase):
    def test_laid_out(self):
        self.assertEqual((share_count(2, 2, 4), share_count(2, 2, 3), share_count(1, 3, 2)), (6, 6, 6))
        for b, many in itertools.product((1, 2, 3, 64), (1, 2, 3, 4)):
            for records in range(min(b * many, 5) + 1):
                laid = list(all_partings(tuple(range(records)), b, many))
                self.assertEqual(share_count(b, many, records), len(set(laid)))

    def test_counted(self):
        for b, many, records in itertools.product((1, 2, 3, 5, 64), (1, 2, 3, 7, 20), (0, 1, 2, 5, 20, 40)):
            if records <= b * many:
                self.assertEqual(share_count(b, many, records), plain_share_count(b, many, records))

    def test_edges(self):
        for b in (1, 2, 64):
            for many in (1, 2, 4):
                self.assertEqual(share_count(b, many, 0), 1)
                self.assertEqual(share_count(b, many, 1), many)
                full = b * many
                # b * many records.
                if full <= 256:
                    self.assertEqual(share_count(b, many, full), math.factorial(full) // math.factorial(b) ** many)
            for records in range(b + 1):
                self.assertEqual(share_count(b, 1, records), 1)
        self.assertEqual(share_count(64, 64, 64), 64 ** 64)
        self.assertEqual(share_count(64, 64, 65), 64 ** 65 - 64)
        self.assertEqual(share_count(1, 64, 64), math.factorial(64))

    def test_more_records_more_ways(self):
        for b, many in itertools.product((1, 2, 3), (1, 2, 3, 5)):
            told = [share_count(b, many, records) for records in range(b * many + 1)]
            self.assertEqual(told, sorted(told))

    def test_pours(self):
        self.assertEqual(pour_most(2, 3, 6, 2), 18)
        for b, many, records, m in small_kinds():
            w = min(many, m)
            self.assertEqual(pour_most(b, many, records, m), math.comb(many, w) * plain_share_count(b, w, min(records, b * w)))
        rng = rng_of(68)
        for b, many, records, m in ((1, 3, 3, 2), (2, 3, 4, 2), (2, 2, 3, 2), (1, 4, 3, 3), (3, 3, 4, 2), (2, 3, 0, 2), (2, 1, 2, 2)):
            standing = drawn_standing(rng, b=b, many=many, records=records)
            reached = {plainly_poured(standing, pour) for pour in all_pours(standing, m)} | {standing}
            self.assertLessEqual(len(reached), pour_most(b, many, records, m))


class FarTest(unittest.TestCase):
    def test_examples(self):
        self.assertEqual((within_most(2, 3, 6, 2, 1), far_at_least(2, 3, 6, 2)), (18, 2))
        self.assertEqual((rare_within(2, 3, 6, 2, 5), rare_within(2, 3, 6, 2, 91)), (1, None))

    def test_plain_counts(self):
        for b, many, records, m in small_kinds():
            count, most = share_count(b, many, records), pour_most(b, many, records, m)
            for t in (0, 1, 2, 3, 7):
                self.assertEqual(within_most(b, many, records, m, t), min(count, most ** t))
            self.assertEqual(within_most(b, many, records, m, 1000), count)
            far = far_at_least(b, many, records, m)
            self.assertEqual(far, min(t for t in range(50) if within_most(b, many, records, m, t) == count))
            for parts in {1, 2, 3, 5, max(1, count // 2), max(1, count - 1), count, count + 1, 10 * count, 10 ** 3999}:
                if parts > count:
                    told = None
                elif most == 1:
                    told = 1000
                else:
                    told = max(t for t in range(50) if parts * most ** t <= count)
                self.assertEqual(rare_within(b, many, records, m, parts), told, (b, many, records, m, parts))

    def test_edges(self):
        # One block: each standing is the only one.
        for b, records in ((1, 0), (1, 1), (64, 64), (3, 2)):
            self.assertEqual((share_count(b, 1, records), pour_most(b, 1, records, 2), far_at_least(b, 1, records, 2)), (1, 1, 0))
            self.assertEqual((within_most(b, 1, records, 2, 0), within_most(b, 1, records, 2, 1000)), (1, 1))
            self.assertEqual((rare_within(b, 1, records, 2, 1), rare_within(b, 1, records, 2, 2)), (1000, None))
        # No records: m blocks of more can be chosen, so pours are counted that do nothing.
        self.assertEqual((pour_most(2, 3, 0, 2), pour_most(2, 3, 0, 16), far_at_least(2, 3, 0, 2)), (3, 1, 0))
        self.assertEqual((rare_within(2, 3, 0, 2, 1), rare_within(2, 3, 0, 16, 1)), (0, 1000))
        for count, b, many, records, m in ((90, 2, 3, 6, 2), (6, 1, 3, 3, 2)):
            self.assertEqual(rare_within(b, many, records, m, count), 0)
            self.assertIsNone(rare_within(b, many, records, m, count + 1))

    def test_within_seconds(self):
        start = time.monotonic()
        for b, m in itertools.product((4, 5, 64), (2, 3, 16)):
            count, most = share_count(b, 64, 256), pour_most(b, 64, 256, m)
            self.assertEqual(count, plain_share_count(4, 64, 256) if (b, m) == (4, 2) else count)
            far = far_at_least(b, 64, 256, m)
            self.assertTrue(most ** (far - 1) < count <= most ** far)
            rare = rare_within(b, 64, 256, m, 10 ** 100)
            self.assertTrue(10 ** 100 * most ** rare <= count < 10 ** 100 * most ** (rare + 1))
            self.assertEqual(within_most(b, 64, 256, m, 1000), count)
        self.assertLess(time.monotonic() - start, 20)


class SpreadTest(unittest.TestCase):
    def test_examples(self):
        self.assertEqual(spread((2, ((0, 1), (2, 3), (4, 5))), 2, 90), (1, 15, 66, 8))
        self.assertEqual(farthest((1, ((0,), (1,), (2,))), 2, 6), ((1, 2, 0), (2, 0, 1)))

    def kinds(self):
        """Small standings and m."""
        rng = rng_of(70)
        for b, many, records in ((1, 1, 1), (3, 1, 2), (1, 2, 0), (1, 2, 2), (2, 2, 3), (1, 3, 3), (2, 3, 4), (3, 2, 5), (1, 4, 3), (2, 3, 5),
                                 (1, 5, 4), (3, 3, 4), (2, 4, 3), (1, 8, 2), (1, 1, 0)):
            for m in (2, 3, 16):
                yield drawn_standing(rng, b=b, many=many, records=records), m

    def test_by_rounds_over_all_standings(self):
        for standing, m in self.kinds():
            b, many, records = standing[0], len(standing[1]), sum(map(len, standing[1]))
            found = distances(standing, m)
            greatest = max(found.values())
            told = spread(standing, m, 10 ** 6)
            self.assertEqual(told, tuple(list(found.values()).count(t) for t in range(greatest + 1)))
            last = farthest(standing, m, 10 ** 6)
            self.assertEqual(last, tuple(sorted(plain_wish(other) for other in found if found[other] == greatest)))
            self.assertTrue(all_in_tuples(told) and all_in_tuples(last))
            self.assertTrue(all(is_wish(standing, wish) for wish in last))
            # Each standing can be reached, but not sooner than it is counted.
            self.assertEqual((sum(told), len(last)), (share_count(b, many, records), told[-1]))
            for t in range(len(told)):
                self.assertLessEqual(sum(told[:t + 1]), within_most(b, many, records, m, t))
            self.assertGreater(len(told), far_at_least(b, many, records, m))
            for parts in (1, 2, 5):
                rare = rare_within(b, many, records, m, parts)
                if rare is not None:
                    self.assertLessEqual(parts * sum(told[:rare + 1]), share_count(b, many, records))

    def test_many_standings_are_refused(self):
        standing = (2, ((0, 1), (2, 3), (4, 5)))
        for most in (0, 1, 89):
            for tell in (spread, farthest):
                with self.assertRaises(Refused) as caught:
                    tell(standing, 2, most)
                self.assertEqual(caught.exception.at, most)
        self.assertEqual(spread(standing, 2, 90), spread(standing, 2, 10 ** 100))
        great = (64, tuple(tuple(range(at, at + 32)) for at in range(0, 256, 32)))
        with self.assertRaises(Refused) as caught:
            spread(great, 16, 10 ** 100)
        self.assertEqual(caught.exception.at, 10 ** 100)
        # One block: there is one standing, however many records lie in it.
        one = (64, (tuple(range(64)),))
        self.assertEqual((spread(one, 2, 1), farthest(one, 2, 1)), ((1,), ((0,) * 64,)))
        with self.assertRaises(Refused):
            spread(one, 2, 0)
        self.assertEqual((spread((1, ((), ())), 2, 1), farthest((1, ((), ())), 2, 1)), ((1,), ((),)))

    def test_it_hangs_on_how_many_records_lie_where(self):
        rng = rng_of(71)
        for sizes in ((2, 1, 0), (1, 1, 1, 0), (2, 2, 1)):
            told = set()
            for _ in range(4):
                order = rng.sample(sizes, len(sizes))
                records = iter(rng.sample(range(sum(sizes)), sum(sizes)))
                told.add(spread((2, tuple(tuple(sorted(next(records) for _ in range(size))) for size in order)), 2, 1000))
            self.assertEqual(len(told), 1)

    def test_ways_go_together(self):
        rng = rng_of(72)
        standing = drawn_standing(rng, b=2, many=3, records=4)
        found = distances(standing, 2)
        for other in rng.sample(sorted(found), 6):
            on = distances(other, 2)
            for third in rng.sample(sorted(found), 20):
                self.assertLessEqual(found[third], found[other] + on[third])

    def test_within_seconds(self):
        start = time.monotonic()
        for standing, m in (((1, tuple((at,) for at in range(7))), 2), ((1, tuple((at,) for at in range(7))), 16),
                            ((1, tuple((at,) if at < 5 else () for at in range(8))), 3), ((3, ((0, 1, 2), (3, 4, 5), (6,), ())), 2)):
            told = spread(standing, m, 20000)
            self.assertEqual(sum(told), share_count(standing[0], len(standing[1]), sum(map(len, standing[1]))))
            self.assertEqual(len(farthest(standing, m, 20000)), told[-1])
        self.assertLess(time.monotonic() - start, 30)


if __name__ == "__main__":
    unittest.main()
