"""Points 29 to 31: digits, exchanges, digits both ways."""

import itertools
import time
import unittest

from fewestpours.digitlayings import foreign_digits, laid_by
from fewestpours.digitrows import digit_row, least_turning, named_digit_row
from fewestpours.exchanges import exchange_row, renaming_row
from fewestpours.standings import is_met, is_standing, renamed_blocks
from fewestpours.turned import table_standing, turned_order, turned_wish
from helpers import all_in_tuples, distances, drawn_standing, played, rings_of, rng_of


def digits(x, m, many):
    """The digits of a number, the lowest one first."""
    return [x // m ** place % m for place in range(many)]


def plainly_laid(m, k, order):
    """The standing laid by an order, record by record as the document tells it."""
    h = len(order)
    blocks = [[] for _ in range(m ** (h - k))]
    for x in range(m ** h):
        told = digits(x, m, h)
        y = sum(told[order[place]] * m ** place for place in range(h))
        blocks[y // m ** k].append(x)
    return m ** k, tuple(map(tuple, blocks))


def plain_bound(m, k, order):
    """The digit bound."""
    foreign = sum(1 for place in range(k, len(order)) if order[place] < k)
    return foreign * m ** (len(order) - k - 1) if foreign else 0


def stays_home(k, order):
    """Whether each entry from k on at a place from k on is at its own."""
    return all(order[place] in (place, *range(k)) for place in range(k, len(order)))


def up(x, y):
    """x / y, rounded up."""
    return -(-x // y)


def some_orders():
    """Triples m, k, order, of small ones."""
    for m, most in ((2, 4), (3, 3), (4, 2), (16, 2)):
        for h in range(most + 1):
            for order in itertools.permutations(range(h)):
                for k in range(h + 1):
                    if m ** h <= 1024:
                        yield m, k, order


class DigitLayingsTest(unittest.TestCase):
    def test_laid_by(self):
        self.assertEqual(laid_by(2, 1, (1, 0)), (2, ((0, 2), (1, 3))))
        self.assertEqual(laid_by(2, 0, (1, 0)), (1, ((0,), (2,), (1,), (3,))))
        self.assertEqual(laid_by(2, 2, (1, 0)), (4, ((0, 1, 2, 3),)))
        self.assertEqual(laid_by(3, 0, ()), (1, ((0,),)))
        for m, k, order in some_orders():
            told = laid_by(m, k, order)
            self.assertEqual(told, plainly_laid(m, k, order))
            self.assertTrue(all_in_tuples(told))
            if m ** k <= 64 and m ** (len(order) - k) <= 64:
                self.assertIs(is_standing(told), True)

    def test_foreign_digits(self):
        self.assertEqual(foreign_digits(1, (1, 2, 0)), 1)
        self.assertEqual(foreign_digits(2, (2, 3, 0, 1)), 2)
        for m, k, order in some_orders():
            self.assertEqual(foreign_digits(k, order), sum(1 for entry in order[k:] if entry < k))
            self.assertEqual(foreign_digits(0, order), 0)
            self.assertEqual(foreign_digits(len(order), order), 0)

    def test_foreign_digits_part_blocks(self):
        for m, k, order in some_orders():
            home, told = laid_by(m, k, tuple(range(len(order))))[1], laid_by(m, k, order)[1]
            foreign = foreign_digits(k, order)
            for block in home:
                shares = [len(set(block) & set(other)) for other in told]
                self.assertEqual([share for share in shares if share], [m ** (k - foreign)] * m ** foreign)

    def test_turned_tables(self):
        for m, most in ((2, 5), (3, 3), (4, 2)):
            for i in range(most + 1):
                for j in range(most + 1 - i):
                    for k in range(i + j + 1):
                        b, rows, columns = m ** k, m ** i, m ** j
                        order = turned_order(i, j)
                        self.assertEqual(table_standing(b, rows, columns), laid_by(m, k, tuple(range(i + j))))
                        self.assertTrue(is_met(laid_by(m, k, order), turned_wish(b, rows, columns)))


class ExchangesTest(unittest.TestCase):
    def test_exchange_row(self):
        count = 0
        for m, k, order in some_orders():
            for inner in range(k):
                for outer in range(k, len(order)):
                    entries = list(order)
                    entries[inner], entries[outer] = entries[outer], entries[inner]
                    row = exchange_row(m, k, order, inner, outer)
                    self.assertEqual(played(laid_by(m, k, order), m, row), laid_by(m, k, tuple(entries)))
                    self.assertEqual(len(row), m ** (len(order) - k - 1))
                    count += 1
        self.assertGreater(count, 100)

    def test_exchange_row_for_large_ones(self):
        for m, k, h in ((2, 4, 10), (2, 6, 10), (4, 2, 5), (4, 3, 5), (16, 1, 2), (8, 2, 3), (3, 3, 6)):
            order = tuple(rng_of(h).sample(range(h), h))
            entries = list(order)
            entries[0], entries[-1] = entries[-1], entries[0]
            row = exchange_row(m, k, order, 0, h - 1)
            self.assertEqual(played(laid_by(m, k, order), m, row), laid_by(m, k, tuple(entries)))
            self.assertEqual(len(row), m ** (h - k - 1))

    def check_renaming(self, standing, names, m):
        """Play a renaming row, and count its pours ring by ring."""
        row = renaming_row(standing, names, m)
        self.assertEqual(played(standing, m, row), renamed_blocks(standing, names))
        self.assertEqual(len(row), sum(up(size - 1, m - 1) for size in rings_of(names)))
        return row

    def test_renaming_row(self):
        rng = rng_of(2)
        for many in range(1, 6):
            for names in itertools.permutations(range(many)):
                for m in (2, 3, 4, 16):
                    self.check_renaming(drawn_standing(rng, many=many), names, m)
                    self.check_renaming((1, ((),) * many), names, m)

    def test_rings(self):
        standing = (1, ((0,), (1,), (2,), (3,)))
        self.assertEqual(renaming_row(standing, (0, 1, 2, 3), 2), ())
        self.assertEqual(renaming_row(standing, (1, 0, 2, 3), 2), (((0, 1), ((1,), (0,))),))
        self.assertEqual(len(renaming_row(standing, (1, 2, 3, 0), 2)), 3)
        self.assertEqual(len(renaming_row(standing, (1, 2, 3, 0), 3)), 2)
        self.assertEqual(len(renaming_row(standing, (1, 2, 3, 0), 4)), 1)
        self.assertEqual(len(renaming_row(standing, (1, 0, 3, 2), 16)), 2)

    def test_none_is_shorter_with_pairs(self):
        for standing in ((1, ((0,), (1,), (2,), (3,))), (2, ((0, 1), (2,), (3, 4), (5, 6))), (2, ((0,), (1,), (2,)))):
            known = distances(standing, 2)
            for names in itertools.permutations(range(len(standing[1]))):
                row = self.check_renaming(standing, names, 2)
                self.assertEqual(len(row), known[renamed_blocks(standing, names)])

    def test_renaming_of_many_blocks(self):
        rng = rng_of(3)
        for m in (2, 3, 5, 16):
            standing = drawn_standing(rng, b=16, many=64, records=1024 if m == 2 else None)
            self.check_renaming(standing, tuple(rng.sample(range(64), 64)), m)
            self.check_renaming(standing, tuple(range(1, 64)) + (0,), m)


class DigitRowsTest(unittest.TestCase):
    def check(self, m, k, order):
        """Play both rows; returns their lengths."""
        home, goal = laid_by(m, k, tuple(range(len(order)))), laid_by(m, k, order)
        told = named_digit_row(m, k, order)
        self.assertTrue(all_in_tuples(told))
        row, names = told
        self.assertEqual(len(row), plain_bound(m, k, order))
        self.assertEqual(sorted(names), list(range(len(home[1]))))
        self.assertEqual(renamed_blocks(played(home, m, row), names), goal)
        whole = digit_row(m, k, order)
        self.assertEqual(played(home, m, whole), goal)
        self.assertEqual(len(whole), len(row) + sum(up(size - 1, m - 1) for size in rings_of(names)))
        if stays_home(k, order):
            self.assertEqual(names, tuple(range(len(names))))
            self.assertEqual(len(whole), len(row))
        return len(row), len(whole)

    def test_digit_rows(self):
        self.assertEqual(self.check(2, 1, (1, 2, 0)), (2, 3))
        for m, k, order in some_orders():
            if m ** k <= 64 and m ** (len(order) - k) <= 64:
                self.check(m, k, order)

    def test_nothing_to_do(self):
        for k in range(4):
            self.assertEqual(self.check(2, k, (0, 1, 2)), (0, 0))
        self.assertEqual(self.check(2, 3, (2, 0, 1)), (0, 0))
        self.assertEqual(self.check(2, 2, (1, 0, 2)), (0, 0))
        self.assertEqual(self.check(2, 0, (2, 1, 0))[0], 0)
        self.assertEqual(self.check(5, 0, ()), (0, 0))

    def test_against_all_standings(self):
        for h in range(4):
            for k in range(h + 1):
                known = distances(laid_by(2, k, tuple(range(h))), 2)
                for order in itertools.permutations(range(h)):
                    named, whole = self.check(2, k, order)
                    goal = laid_by(2, k, order)
                    least = min(known[goal[0], blocks] for blocks in itertools.permutations(goal[1]))
                    self.assertEqual(named, least)
                    self.assertGreaterEqual(whole, known[goal])
                    if stays_home(k, order):
                        self.assertEqual(whole, known[goal])

    def test_three_and_four_blocks_at_once(self):
        for m in (3, 4):
            self.assertEqual(self.check(m, 1, (1, 0)), (1, 1))
            self.assertEqual(self.check(m, 1, (1, 2, 0)), (m, m + m * (m - 1) // 2))
            self.assertEqual(self.check(m, 2, (2, 1, 0)), (1, 1))

    def test_least_turning(self):
        self.assertEqual(least_turning(2, 2, 2, 2), 4)
        for m in (2, 3, 4, 16):
            for i in range(5):
                for j in range(5):
                    for k in range(i + j + 1):
                        foreign = min(i, j, k, i + j - k)
                        told = foreign * m ** (i + j - k - 1) if foreign else 0
                        self.assertEqual(least_turning(m, i, j, k), told)
                        self.assertEqual(told, plain_bound(m, k, turned_order(i, j)))

    def test_turned_tables_meet_the_bound(self):
        for m, i, j, k in ((2, 2, 2, 2), (2, 1, 2, 2), (2, 3, 3, 3), (2, 5, 5, 5), (4, 2, 2, 2), (16, 1, 1, 1), (2, 4, 6, 6)):
            home = table_standing(m ** k, m ** i, m ** j)
            row = digit_row(m, k, turned_order(i, j))
            self.assertTrue(is_met(played(home, m, row), turned_wish(m ** k, m ** i, m ** j)))
            self.assertEqual(len(row), least_turning(m, i, j, k))
        for m, i, j, k in ((2, 0, 3, 1), (2, 3, 0, 2), (3, 0, 2, 0), (2, 2, 1, 3), (2, 0, 0, 0)):
            self.assertEqual(least_turning(m, i, j, k), 0)
            self.assertEqual(named_digit_row(m, k, turned_order(i, j))[0], ())

    def test_large_ones_are_told_soon(self):
        rng = rng_of(4)
        begin = time.time()
        for m, k, h in ((2, 4, 10), (2, 5, 10), (2, 6, 10), (4, 2, 5), (4, 3, 5), (16, 1, 2), (8, 1, 3), (8, 2, 3), (3, 3, 6)):
            for _ in range(3):
                order = tuple(rng.sample(range(h), h))
                self.check(m, k, order)
        self.assertLess(time.time() - begin, 20)


if __name__ == "__main__":
    unittest.main()
