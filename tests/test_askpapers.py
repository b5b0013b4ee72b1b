"""Points 39 to 42: furthest first, papers, dear pages, more rooms."""

import itertools
import time
import unittest

from fewestpours.askpapers import ask_bound, ask_paper, is_ask_paper
from fewestpours.asks import is_kept_lot, kept_by, rooms_of, stretches
from fewestpours.dearpages import is_price_paper, kept_worth, price_bound, price_paper
from fewestpours.furthest import fewest_misses, furthest, hits_by_rooms
from helpers import WRONG_VALUES, all_in_tuples, all_lots, broken, drawn_asks, nested, rng_of

ASKS = (0, 1, 2, 0, 1, 3, 0, 1)
COSTS = (1, 5, 1, 1)


def kept_lots(asks, m):
    """All kept lots."""
    for lot in all_lots(stretches(asks)):
        if all(sum(1 for i, j in lot if i < at < j) < m for at in range(len(asks))):
            yield lot


def plain_furthest(asks, m):
    """The stretches kept by the rule, done ask by ask."""
    there, kept = [], []
    for at, page in enumerate(asks):
        if page in there:
            kept.append((max(before for before in range(at) if asks[before] == page), at))
        else:
            later = {one: asks.index(one, at) if one in asks[at:] else len(asks) for one in there}
            if len(there) == m:
                there.remove(max(there, key=later.get))
            there.append(page)
    return tuple(sorted(kept))


def least_misses(asks, m):
    """The least number of misses of all programs, which may bring in pages whenever they like."""
    pages = sorted(set(asks))
    held = {(): 0}
    for page in asks:
        later = {}
        for there, count in held.items():
            for size in range(min(m, len(pages)) + 1):
                for other in itertools.combinations(pages, size):
                    if page in other:
                        cost = count + len(set(other) - set(there))
                        later[other] = min(cost, later.get(other, cost))
        held = later
    return min(held.values())


class FurthestTest(unittest.TestCase):
    def test_examples(self):
        self.assertEqual(furthest(ASKS, 2), ((0, 3), (3, 6)))
        self.assertEqual(furthest(ASKS, 3), ((0, 3), (1, 4), (3, 6), (4, 7)))
        self.assertEqual((fewest_misses(ASKS, 2), fewest_misses(ASKS, 3), fewest_misses(ASKS, 1)), (6, 4, 8))

    def test_edges(self):
        for m in (1, 2, 16):
            self.assertEqual((furthest((), m), fewest_misses((), m)), ((), 0))
            self.assertEqual((furthest((7,), m), fewest_misses((7,), m)), ((), 1))
            self.assertEqual((furthest((7,) * 4, m), fewest_misses((7,) * 4, m)), (((0, 1), (1, 2), (2, 3)), 1))
            self.assertEqual((furthest(tuple(range(40)), m), fewest_misses(tuple(range(40)), m)), ((), 40))
        self.assertEqual(furthest((1, 2, 1, 2), 1), ())
        self.assertEqual(furthest((1, 2, 2, 1), 1), ((1, 2),))
        self.assertEqual(furthest((1, 2, 2, 1), 2), ((0, 3), (1, 2)))

    def test_against_all_lots(self):
        rng = rng_of(1)
        for _ in range(400):
            asks = drawn_asks(rng, rng.randint(0, 10))
            for m in (1, 2, 3, 4):
                told = furthest(asks, m)
                self.assertTrue(all_in_tuples(told))
                self.assertEqual(told, plain_furthest(asks, m))
                self.assertIs(is_kept_lot(asks, m, told), True)
                self.assertEqual(len(told), max(map(len, kept_lots(asks, m))))
                self.assertEqual(fewest_misses(asks, m), len(asks) - len(told))
                self.assertEqual(len(kept_by(asks, rooms_of(asks, m, told))), len(told))

    def test_against_all_programs(self):
        rng = rng_of(2)
        for _ in range(120):
            asks = drawn_asks(rng, rng.randint(1, 8))
            for m in (1, 2, 3):
                self.assertEqual(fewest_misses(asks, m), least_misses(asks, m))


class AskPapersTest(unittest.TestCase):
    def test_ask_bound(self):
        self.assertEqual(ask_bound(ASKS, 2, (2, 5)), 2)
        self.assertEqual(ask_bound(ASKS, 2, ()), 4)
        self.assertEqual(ask_bound((), 16, ()), 0)
        rng = rng_of(3)
        for _ in range(200):
            asks = drawn_asks(rng, rng.randint(0, 8))
            for times in all_lots(range(len(asks))):
                for m in (1, 3):
                    free = [(i, j) for i, j in stretches(asks) if not any(i < at < j for at in times)]
                    self.assertEqual(ask_bound(asks, m, times), (m - 1) * len(times) + len(free))

    def check(self, asks, m):
        """Ask for a paper, and add it up."""
        told = ask_paper(asks, m)
        self.assertTrue(all_in_tuples(told))
        kept, times = told
        self.assertIs(is_kept_lot(asks, m, kept), True)
        self.assertTrue(list(times) == sorted(set(times)) and set(times) <= set(range(len(asks))))
        free = [(i, j) for i, j in stretches(asks) if not any(i < at < j for at in times)]
        self.assertEqual(len(kept), (m - 1) * len(times) + len(free))
        self.assertEqual(len(kept), len(furthest(asks, m)))
        self.assertIs(is_ask_paper(asks, m, told), True)
        return told

    def test_ask_paper(self):
        rng = rng_of(4)
        for asks in ((), (3,), (3, 3, 3), (0, 1, 2, 3), ASKS):
            for m in (1, 2, 3, 16):
                self.check(asks, m)
        for _ in range(600):
            asks = drawn_asks(rng, rng.randint(0, 25))
            for m in (1, 2, 3, 4, 16):
                self.check(asks, m)

    def test_is_ask_paper(self):
        self.assertIs(is_ask_paper(ASKS, 2, (((0, 3), (4, 7)), (2, 5))), True)
        rng = rng_of(5)
        counts = [0, 0]
        for _ in range(60):
            asks = drawn_asks(rng, rng.randint(0, 6))
            for m in (1, 2, 3):
                for kept in all_lots(stretches(asks)):
                    for times in all_lots(range(len(asks))):
                        well = kept in set(kept_lots(asks, m)) and ask_bound(asks, m, times) == len(kept)
                        self.assertIs(is_ask_paper(asks, m, (kept, times)), well)
                        counts[well] += 1
        self.assertGreater(min(counts), 300)

    def test_any_value(self):
        for asks, m in ((ASKS, 2), (ASKS, 3), ((1, 2, 1, 2, 1), 2), ((), 1), ((4, 4), 1), ((4, 4), 16)):
            paper = ask_paper(asks, m)
            kept, times = paper
            wrong = [(kept,), (kept, times, ()), (times, kept), (kept, times + (len(asks),)), (kept, times + (400,)), (kept, (-1,) + times),
                     (kept, times + times[-1:] if times else (0, 0)), (kept, (True,)), (kept, [*times]), (kept[1:] + ((0, 9),), times)]
            for value in itertools.chain(broken(paper), WRONG_VALUES, wrong, (nested(40),)):
                if value != paper or repr(value) != repr(paper):
                    told = is_ask_paper(asks, m, value)
                    self.assertIs(told, value == ((), ()) and repr(value) == "((), ())" and not stretches(asks), value)

    def test_a_time_that_shows_nothing(self):
        self.assertIs(is_ask_paper((1, 2, 2), 1, (((1, 2),), (0, 1))), True)
        self.assertIs(is_ask_paper((1, 2, 2), 2, (((1, 2),), (0,))), False)


class DearPagesTest(unittest.TestCase):
    def test_examples(self):
        self.assertEqual(kept_worth(ASKS, COSTS, ((1, 4), (4, 7))), 10)
        self.assertEqual(price_bound(ASKS, COSTS, 2, (0, 0, 5, 0, 0, 5, 0, 0)), 10)
        self.assertEqual((kept_worth((), (), ()), price_bound((), (), 3, ())), (0, 0))
        self.assertEqual(kept_worth(ASKS, COSTS, ()), 0)

    def test_bounds(self):
        rng = rng_of(6)
        for _ in range(500):
            asks = drawn_asks(rng, rng.randint(0, 9))
            costs = tuple(rng.choice((0, 1, 5, 10 ** 20)) for _ in range(5))
            prices = tuple(rng.choice((0, 0, 1, 4, 10 ** 20)) for _ in asks)
            for m in (1, 2, 3):
                dearer = sum(max(0, costs[asks[i]] - sum(prices[i + 1:j])) for i, j in stretches(asks))
                told = price_bound(asks, costs, m, prices)
                self.assertEqual(told, (m - 1) * sum(prices) + dearer)
                for kept in kept_lots(asks, m):
                    self.assertEqual(kept_worth(asks, costs, kept), sum(costs[asks[i]] for i, _ in kept))
                    self.assertLessEqual(kept_worth(asks, costs, kept), told)
            times = tuple(at for at in range(len(asks)) if prices[at])
            ones = tuple(int(at in times) for at in range(len(asks)))
            self.assertEqual(price_bound(asks, (1,) * 5, 3, ones), ask_bound(asks, 3, times))

    def check(self, asks, costs, m):
        """Ask for a paper, and add it up."""
        told = price_paper(asks, costs, m)
        self.assertTrue(all_in_tuples(told))
        kept, prices = told
        self.assertIs(is_kept_lot(asks, m, kept), True)
        self.assertEqual(len(prices), len(asks))
        self.assertGreaterEqual(min(prices, default=0), 0)
        worth = sum(costs[asks[i]] for i, _ in kept)
        ends = [0, *itertools.accumulate(prices)]
        dearer = sum(max(0, costs[asks[i]] - ends[j] + ends[i + 1]) for i, j in stretches(asks))
        self.assertEqual((m - 1) * ends[-1] + dearer, worth)
        self.assertIs(is_price_paper(asks, costs, m, told), True)
        return worth

    def test_price_paper(self):
        rng = rng_of(7)
        self.assertEqual(self.check(ASKS, COSTS, 2), 10)
        for _ in range(300):
            asks = drawn_asks(rng, rng.randint(0, 10))
            kinds = rng.choice(((0, 1), (1,), (1, 2, 3), (0, 7, 10 ** 300), (0,), tuple(range(20))))
            costs = tuple(rng.choice(kinds) for _ in range(5))
            for m in (1, 2, 3, 4, 16):
                worth = self.check(asks, costs, m)
                self.assertEqual(worth, max(kept_worth(asks, costs, kept) for kept in kept_lots(asks, m)))
                if set(costs) == {1}:
                    self.assertEqual(worth, len(furthest(asks, m)))

    def test_edges(self):
        for m in (1, 2, 16):
            self.assertEqual(self.check((), (), m), 0)
            self.assertEqual(self.check((0,), (9,), m), 0)
            self.assertEqual(self.check((0,) * 5, (9,), m), 36)
            self.assertEqual(self.check(tuple(range(9)), (9,) * 9, m), 0)
            self.assertEqual(self.check(ASKS, (0,) * 4, m), 0)
        great = 10 ** 3990
        self.assertEqual(self.check((0, 1, 2, 0, 1), (great, great + 1, 0), 2), great + 1)

    def test_any_value(self):
        for asks, costs, m in ((ASKS, COSTS, 2), ((0, 1, 0, 1, 0), (2, 3), 2), ((0, 0), (4,), 1), ((0, 1, 0), (1, 1), 2)):
            paper = price_paper(asks, costs, m)
            kept, prices = paper
            wrong = [(kept,), (kept, prices, ()), (prices, kept), (kept, prices + (0,)), (kept, prices[:-1]), (kept, list(prices)),
                     (kept, tuple(float(price) for price in prices)), (kept, tuple(map(bool, prices))), (kept[:-1], prices)]
            for value in itertools.chain(broken(paper), WRONG_VALUES, wrong, (nested(40),)):
                self.assertIs(is_price_paper(asks, costs, m, value), False, value)
        self.assertIs(is_price_paper((), (), 1, ((), ())), True)
        self.assertIs(is_price_paper((), (), 1, ((), [])), False)
        self.assertIs(is_price_paper((0, 1, 0), (1, 1), 1, ((), (0, 1, 0))), True)
        self.assertIs(is_price_paper((0, 1, 0), (1, 1), 1, ((), (0, True, 0))), False)
        self.assertIs(is_price_paper((0, 1, 0), (1, 1), 1, ((), (0, 2, -1))), False)
        self.assertIs(is_price_paper((0, 1, 0), (1, 1), 1, ((), (0, 0, 0))), False)
        self.assertIs(is_price_paper((0, 1, 0), (1, 1), 1, (((0, 2),), (0, 0, 0))), False)

    def test_drawn_papers(self):
        rng = rng_of(8)
        counts = [0, 0]
        for _ in range(1500):
            asks = drawn_asks(rng, rng.randint(0, 6))
            costs = tuple(rng.randint(0, 2) for _ in range(5))
            m = rng.randint(1, 3)
            kept = rng.choice(list(all_lots(stretches(asks))))
            prices = tuple(rng.randint(0, 1) for _ in asks)
            well = kept in set(kept_lots(asks, m)) and kept_worth(asks, costs, kept) == price_bound(asks, costs, m, prices)
            self.assertIs(is_price_paper(asks, costs, m, (kept, prices)), well)
            counts[well] += 1
        self.assertGreater(min(counts), 100)


class MoreRoomsTest(unittest.TestCase):
    def test_hits_by_rooms(self):
        self.assertEqual(hits_by_rooms(ASKS, 4), (0, 2, 4, 4))
        self.assertEqual(hits_by_rooms((), 3), (0, 0, 0))
        self.assertEqual(hits_by_rooms((5, 5, 5), 1), (2,))
        self.assertEqual(hits_by_rooms((5,), 16), (0,) * 16)
        rng = rng_of(9)
        for _ in range(400):
            asks = drawn_asks(rng, rng.randint(0, 9))
            most = rng.choice((1, 3, 6, 16))
            told = hits_by_rooms(asks, most)
            self.assertTrue(all_in_tuples(told))
            self.assertEqual(told, tuple(max(map(len, kept_lots(asks, m))) for m in range(1, most + 1)))

    def test_facts(self):
        rng = rng_of(10)
        for _ in range(400):
            pages = rng.randint(1, 9)
            asks = tuple(rng.randrange(pages) for _ in range(rng.randint(0, 40)))
            told = hits_by_rooms(asks, 16)
            more = [other - one for one, other in itertools.pairwise(told)]
            self.assertEqual(more[1:], sorted(more[1:], reverse=True))
            self.assertGreaterEqual(min(more), 0)
            self.assertEqual(told[pages - 1:], (len(stretches(asks)),) * (17 - pages))
            self.assertEqual(told[0], sum(1 for one, other in itertools.pairwise(asks) if one == other))
            self.assertEqual(hits_by_rooms(asks[::-1], 16), told)
            self.assertEqual(hits_by_rooms(tuple(9 ** page for page in asks), 16), told)
            at = rng.randint(0, len(asks))
            longer = asks[:at] + (rng.randrange(pages + 1),) + asks[at:]
            for m in (1, 2, 3, 16):
                self.assertIn(fewest_misses(longer, m) - fewest_misses(asks, m), (0, 1, 2))

    def test_many_asks_soon(self):
        rng = rng_of(11)
        begin = time.time()
        papers, prices = AskPapersTest(), DearPagesTest()
        for pages in (1, 4, 20, 60, 400):
            asks = tuple(rng.randrange(pages) for _ in range(400))
            hits = hits_by_rooms(asks, 16)
            for m in (1, 2, 16):
                self.assertEqual(len(papers.check(asks, m)[0]), hits[m - 1])
                for most in (3, 10 ** 6, 10 ** 3990):
                    prices.check(asks, tuple(rng.randint(0, most) for _ in range(pages)), m)
        for asks in (tuple(range(200)) * 2, tuple(range(40)) * 10, tuple(range(17)) * 23, tuple(range(200)) + tuple(range(200))[::-1]):
            self.assertEqual(len(papers.check(asks, 16)[0]), hits_by_rooms(asks, 16)[-1])
        self.assertLess(time.time() - begin, 60)


if __name__ == "__main__":
    unittest.main()
