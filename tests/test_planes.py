"""Point 32: tables parted into planes."""

import itertools
import time
import unittest

from fewestpours.planes import even_planes
from helpers import all_in_tuples, rng_of


def fits(m, last, b, table):
    """Whether no line of a table has more than it may."""
    size = len(table)
    most = [m * b] * (size - 1) + [last * b]
    return all(sum(table[at]) <= most[at] and sum(row[at] for row in table) <= most[at] for at in range(size))


def drawn_table(rng, m, last, b, size, is_full):
    """Some table in which no line has more than it may, or each just as much."""
    rows = [m * b] * (size - 1) + [last * b]
    columns = list(rows)
    table = [[0] * size for _ in range(size)]
    cells = [(row, column) for row in range(size) for column in range(size)] * 2
    rng.shuffle(cells)
    for row, column in cells:
        most = min(rows[row], columns[column])
        more = rng.choice((rng.randint(0, most), min(most, 1), min(most, b)))
        table[row][column] += more
        rows[row] -= more
        columns[column] -= more
    if is_full:
        for row, column in cells:
            more = min(rows[row], columns[column])
            table[row][column] += more
            rows[row] -= more
            columns[column] -= more
    return tuple(map(tuple, table))


class PlanesTest(unittest.TestCase):
    def check(self, m, last, b, table):
        """Ask for planes, and look at them; None is to be told exactly where a line has more than it may."""
        planes = even_planes(m, last, b, table)
        if not fits(m, last, b, table):
            self.assertIsNone(planes, (m, last, b, table))
            return
        size = len(table)
        self.assertTrue(all_in_tuples(planes))
        self.assertEqual(len(planes), m)
        for row in range(size):
            for column in range(size):
                self.assertEqual(sum(plane[row][column] for plane in planes), table[row][column])
        for number, plane in enumerate(planes):
            self.assertEqual([len(row) for row in plane], [size] * size)
            self.assertTrue(all(entry >= 0 for row in plane for entry in row))
            lines = [sum(row) for row in plane] + [sum(column) for column in zip(*plane)]
            self.assertLessEqual(max(lines, default=0), b)
            if number >= last and size:
                self.assertEqual((lines[size - 1], lines[-1]), (0, 0))

    def test_example(self):
        self.assertEqual(even_planes(2, 1, 1, ((1, 1), (1, 0))), (((0, 1), (1, 0)), ((1, 0), (0, 0))))
        self.assertIsNone(even_planes(2, 1, 1, ((1, 1), (1, 1))))
        self.check(2, 2, 1, ((1, 1), (1, 1)))

    def test_all_tables_of_one_row(self):
        for m in (2, 3, 16):
            for last in range(1, m + 1):
                for b in (1, 2, 5):
                    for entry in range(m * b + 3):
                        self.check(m, last, b, ((entry,),))
                    self.check(m, last, b, ((last * b,),))
                    self.assertIsNone(even_planes(m, last, b, ((last * b + 1,),)))

    def test_all_tables_of_two_rows(self):
        for m, b, most in ((2, 1, 3), (2, 2, 5), (3, 1, 4), (4, 1, 5)):
            for entries in itertools.product(range(most + 1), repeat=4):
                for last in range(1, m + 1):
                    self.check(m, last, b, (entries[:2], entries[2:]))

    def test_all_tables_of_three_rows(self):
        for entries in itertools.product(range(3), repeat=9):
            table = (entries[:3], entries[3:6], entries[6:])
            if max(map(sum, table)) <= 3:
                self.check(2, 1, 1, table)
                self.check(2, 2, 1, table)

    def test_drawn_tables(self):
        rng = rng_of(1)
        for _ in range(1500):
            m, b, size = rng.randint(2, 5), rng.randint(1, 5), rng.randint(3, 4)
            last = rng.randint(1, m)
            table = drawn_table(rng, m, last, b, size, rng.random() < 0.5)
            self.assertTrue(fits(m, last, b, table))
            self.check(m, last, b, table)
            more = [list(row) for row in table]
            more[rng.randrange(size)][rng.randrange(size)] += rng.randint(1, 2)
            other = tuple(tuple(rng.randint(0, b) for _ in range(size)) for _ in range(size))
            for each in range(1, m + 1):
                for one in (table, tuple(map(tuple, more)), other):
                    self.check(m, each, b, one)

    def test_one_too_many(self):
        for m, last, b in ((2, 1, 1), (3, 2, 2), (4, 4, 3), (16, 1, 64)):
            table = drawn_table(rng_of(m), m, last, b, 4, True)
            self.check(m, last, b, table)
            for row in range(4):
                for column in range(4):
                    more = [list(entries) for entries in table]
                    more[row][column] += 1
                    self.assertIsNone(even_planes(m, last, b, tuple(map(tuple, more))))

    def test_no_rows(self):
        self.assertEqual(even_planes(3, 1, 2, ()), ((), (), ()))

    def test_many_rows_are_parted_soon(self):
        rng = rng_of(2)
        begin = time.time()
        for last in (1, 2, 7, 15, 16):
            for b in (1, 3, 64, 10 ** 12):
                for is_full in (False, True):
                    self.check(16, last, b, drawn_table(rng, 16, last, b, 64, is_full))
        for m in (2, 3):
            self.check(m, 1, 64, drawn_table(rng, m, 1, 64, 64, True))
        self.assertLess(time.time() - begin, 30)


if __name__ == "__main__":
    unittest.main()
