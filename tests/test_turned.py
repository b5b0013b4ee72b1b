"""Of point 29: tables, turned wishes, turned orders."""

import unittest

from fewestpours.standings import is_standing, is_wish
from fewestpours.turned import table_standing, turned_order, turned_wish
from helpers import all_in_tuples


class TurnedTest(unittest.TestCase):
    def test_table_standing(self):
        self.assertEqual(table_standing(2, 2, 3), (2, ((0, 1), (2, 3), (4, 5))))
        self.assertEqual(table_standing(4, 2, 3), (4, ((0, 1, 2, 3), (4, 5))))
        self.assertEqual(table_standing(64, 1, 1), (64, ((0,),)))
        self.assertEqual(table_standing(1, 1, 3), (1, ((0,), (1,), (2,))))

    def test_turned_wish(self):
        self.assertEqual(turned_wish(2, 2, 3), (0, 1, 2, 0, 1, 2))
        self.assertEqual(turned_wish(4, 2, 3), (0, 0, 1, 0, 0, 1))
        self.assertEqual(turned_wish(1, 1, 3), (0, 1, 2))
        self.assertEqual(turned_wish(5, 3, 1), (0, 0, 0))

    def test_all_small_tables(self):
        for b in range(1, 8):
            for rows in range(1, 8):
                for columns in range(1, 8):
                    standing, wish = table_standing(b, rows, columns), turned_wish(b, rows, columns)
                    self.assertIs(is_standing(standing), True)
                    self.assertIs(is_wish(standing, wish), True)
                    self.assertTrue(all_in_tuples(standing) and all_in_tuples(wish))
                    self.assertEqual(len(standing[1]), -(-rows * columns // b))
                    for row in range(rows):
                        for column in range(columns):
                            record = row * columns + column
                            self.assertIn(record, standing[1][record // b])
                            self.assertEqual(wish[record], (column * rows + row) // b)

    def test_large_tables(self):
        standing, wish = table_standing(16, 32, 32), turned_wish(16, 32, 32)
        self.assertIs(is_standing(standing) and is_wish(standing, wish), True)
        self.assertEqual(len(table_standing(64, 1, 1024)[1]), 16)

    def test_turned_order(self):
        self.assertEqual(turned_order(2, 3), (3, 4, 0, 1, 2))
        self.assertEqual(turned_order(1, 1), (1, 0))
        self.assertEqual(turned_order(0, 2), (0, 1))
        self.assertEqual(turned_order(2, 0), (0, 1))
        self.assertEqual(turned_order(0, 0), ())


if __name__ == "__main__":
    unittest.main()
