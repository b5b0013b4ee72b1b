"""Points 7 and 8: pours and rows."""

import itertools
import time
import unittest

from fewestpours.errors import InvalidRow
from fewestpours.pours import back, behind, is_pour, meets, poured
from fewestpours.standings import is_met, is_standing
from helpers import (
    WRONG_VALUES,
    all_in_tuples,
    all_pours,
    broken,
    distances,
    drawn_pour,
    drawn_row,
    drawn_standing,
    drawn_wish,
    nested,
    plain_wish,
    plainly_poured,
    rng_of,
)


class PoursTest(unittest.TestCase):
    def test_pours_of_a_small_standing(self):
        standing = (2, ((0, 3), (1,), ()))
        count = 0
        lots = [lot for size in range(4) for lot in itertools.permutations((0, 1, 3), size)]
        told = set(all_pours(standing, 3))
        for who in [who for size in range(4) for who in itertools.permutations(range(4), size)]:
            for parts in itertools.product(lots, repeat=len(who)):
                value = (who, parts)
                self.assertIs(is_pour(standing, 3, value), value in told, value)
                self.assertIs(is_pour(standing, 2, value), value in told and len(who) == 2, value)
                count += value in told
        self.assertEqual(count, len(told))

    def test_any_value(self):
        rng = rng_of(1)
        for _ in range(30):
            standing = drawn_standing(rng, many=rng.randint(2, 4))
            pour = drawn_pour(rng, standing, 3)
            self.assertIs(is_pour(standing, 3, pour), True)
            who, parts = pour
            wrong = [pour + ((),), (who,), (who[:-1], parts), (who, parts[:-1]), (who[::-1], parts), (who, parts + ((),)),
                     (who + who[-1:], parts + parts[-1:]), ((0, 99), parts), ((0, 0), parts), (who, parts[0])]
            for value in itertools.chain(broken(pour), wrong, WRONG_VALUES, (nested(2000),)):
                self.assertIs(is_pour(standing, 3, value), False, value)
                self.assertIs(meets(standing, plain_wish(standing), 3, (value,)), False)
                with self.assertRaises(InvalidRow) as caught:
                    poured(standing, 3, value)
                self.assertEqual(caught.exception.at, 0)

    def test_limits_of_a_pour(self):
        standing = (1, tuple((at,) for at in range(17)) + ((),) * 47)
        sixteen = tuple(range(16))
        self.assertIs(is_pour(standing, 16, (sixteen, standing[1][15::-1])), True)
        self.assertIs(is_pour(standing, 15, (sixteen, standing[1][15::-1])), False)
        self.assertIs(is_pour(standing, 16, (tuple(range(17)), standing[1][16::-1])), False)
        self.assertIs(is_pour(standing, 2, ((62, 63), ((), ()))), True)
        self.assertIs(is_pour(standing, 2, ((63, 64), ((), ()))), False)
        self.assertIs(is_pour(standing, 2, ((0, 1), ((0, 1), ()))), False)
        self.assertIs(is_pour((1, ((0,),)), 2, ((0,), ((0,),))), False)
        self.assertIs(is_pour((1, ((),)), 2, ((), ())), False)

    def test_poured(self):
        rng = rng_of(2)
        for _ in range(100):
            standing = drawn_standing(rng, many=rng.randint(2, 5))
            pour = drawn_pour(rng, standing, 4)
            later = poured(standing, 4, pour)
            self.assertEqual(later, plainly_poured(standing, pour))
            self.assertIs(is_standing(later), True)
            self.assertTrue(all_in_tuples(later))
            way = (pour[0], tuple(standing[1][at] for at in pour[0]))
            self.assertEqual(poured(later, 4, way), standing)


class RowsTest(unittest.TestCase):
    def test_behind_and_meets(self):
        rng = rng_of(3)
        for _ in range(100):
            standing = drawn_standing(rng)
            row, last = drawn_row(rng, standing, 3, rng.randint(0, 4))
            self.assertEqual(behind(standing, 3, row), last)
            wish = drawn_wish(rng, standing)
            self.assertIs(meets(standing, wish, 3, row), is_met(last, wish))
            self.assertIs(meets(standing, plain_wish(last), 3, row), True)
            self.assertIs(meets(standing, plain_wish(last), 3, list(row)), False)
        self.assertEqual(behind((1, ((),)), 2, ()), (1, ((),)))

    def test_first_wrong_entry(self):
        rng = rng_of(4)
        for _ in range(50):
            standing = drawn_standing(rng, many=rng.randint(2, 4))
            row, last = drawn_row(rng, standing, 3, 4)
            at = rng.randrange(4)
            for wrong in (None, (), list(row[at]), (row[at][0], row[at][1] + ((),)), "pour", True):
                value = row[:at] + (wrong,) + row[at + 1:] + (None,)
                with self.assertRaises(InvalidRow) as caught:
                    behind(standing, 3, value)
                self.assertEqual(caught.exception.at, at)
                self.assertIs(meets(standing, plain_wish(last), 3, value), False)

    def test_an_entry_is_looked_at_behind_those_ahead(self):
        standing = (1, ((0,), (1,), (2,)))
        row = (((0, 1), ((1,), (0,))), ((1, 2), ((2,), (0,))))
        self.assertEqual(behind(standing, 2, row), (1, ((1,), (2,), (0,))))
        with self.assertRaises(InvalidRow) as caught:
            behind(standing, 2, (row[0], ((1, 2), ((2,), (1,)))))
        self.assertEqual(caught.exception.at, 1)
        three = (row[0], ((0, 1, 2), ((0,), (1,), (2,))))
        self.assertEqual(behind(standing, 3, three), standing)
        with self.assertRaises(InvalidRow) as caught:
            behind(standing, 2, three)
        self.assertEqual(caught.exception.at, 1)

    def test_no_tuple(self):
        for value in (None, [], [((0, 1), ((0,), (1,)))], "", "ab", 0, True, {}, set(), 1.5, b""):
            with self.assertRaises(InvalidRow) as caught:
                behind((1, ((0,), (1,))), 2, value)
            self.assertEqual(caught.exception.at, 0)
            self.assertIs(meets((1, ((0,), (1,))), (0, 1), 2, value), False)

    def test_back(self):
        rng = rng_of(5)
        for _ in range(100):
            standing = drawn_standing(rng)
            row, last = drawn_row(rng, standing, 3, rng.randint(0, 4))
            way = back(standing, 3, row)
            self.assertTrue(all_in_tuples(way))
            self.assertEqual([pour[0] for pour in way], [pour[0] for pour in row[::-1]])
            self.assertEqual(behind(last, 3, way), standing)
            self.assertEqual(back(last, 3, way), row)
            held = [standing]
            for pour in row:
                held.append(plainly_poured(held[-1], pour))
            for pour, ahead in zip(way, held[-2::-1]):
                self.assertEqual(pour[1], tuple(ahead[1][at] for at in pour[0]))

    def test_as_many_pours_as_records_suffice(self):
        rng = rng_of(6)
        for _ in range(4):
            standing = drawn_standing(rng, 2, 3, rng.randint(3, 5))
            far = distances(standing, 2)
            self.assertLessEqual(max(far.values()), sum(map(len, standing[1])))
            for other in rng.sample(sorted(far), 3):
                self.assertEqual(distances(other, 2)[standing], far[other])


class LargeTest(unittest.TestCase):
    def test_long_rows(self):
        rng = rng_of(7)
        begun = time.time()
        small = drawn_standing(rng, 2, 3, 5)
        row, last = drawn_row(rng, small, 3, 10000)
        self.assertEqual(behind(small, 3, row), last)
        self.assertEqual(behind(last, 3, back(small, 3, row)), small)
        self.assertIs(meets(small, plain_wish(last), 3, row), True)
        self.assertIs(meets(small, plain_wish(last), 3, row + (None,)), False)
        for b, many in ((16, 64), (64, 16), (64, 64)):
            standing = drawn_standing(rng, b, many, 1024)
            self.assertIs(is_standing(standing), True)
            for m in (2, 16):
                row, last = drawn_row(rng, standing, m, 200)
                self.assertEqual(behind(standing, m, row), last)
                self.assertEqual(behind(last, m, back(standing, m, row)), standing)
                self.assertIs(meets(standing, plain_wish(last), m, row), True)
        self.assertLess(time.time() - begun, 30)


if __name__ == "__main__":
    unittest.main()
