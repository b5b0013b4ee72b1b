"""Point 38: stretches, kept lots, rooms."""

import itertools
import time
import unittest

from fewestpours.asks import is_kept_lot, kept_by, rooms_of, stretches
from helpers import WRONG_VALUES, all_in_tuples, all_lots, broken, drawn_asks, nested, rng_of

ASKS = (0, 1, 2, 0, 1, 3, 0, 1)


def plain_stretches(asks):
    """All stretches, by all pairs of times."""
    return tuple((i, j) for i in range(len(asks)) for j in range(i + 1, len(asks))
                 if asks[i] == asks[j] and asks[i] not in asks[i + 1:j])


def is_lot(asks, m, kept):
    """Whether a tuple of stretches is a kept lot, time by time."""
    return all(sum(1 for i, j in kept if i < time_ < j) < m for time_ in range(len(asks)))


def plain_kept(asks, row):
    """What a room row keeps."""
    return tuple((i, j) for i, j in plain_stretches(asks) if row[i] == row[j] and row[i] not in row[i + 1:j])


class StretchesTest(unittest.TestCase):
    def test_stretches(self):
        self.assertEqual(stretches(ASKS), ((0, 3), (1, 4), (3, 6), (4, 7)))
        self.assertEqual(stretches(()), ())
        self.assertEqual(stretches((5,)), ())
        self.assertEqual(stretches((3, 3, 3)), ((0, 1), (1, 2)))
        self.assertEqual(stretches((0, 1, 2, 10 ** 3999)), ())
        self.assertEqual(stretches((1, 2, 2, 1)), ((0, 3), (1, 2)))

    def test_all_small_asks(self):
        for many in range(7):
            for asks in itertools.product(range(3), repeat=many):
                self.assertEqual(stretches(asks), plain_stretches(asks))
                self.assertTrue(all_in_tuples(stretches(asks)))


class KeptLotsTest(unittest.TestCase):
    def test_is_kept_lot(self):
        self.assertIs(is_kept_lot(ASKS, 2, ((0, 3), (1, 4))), False)
        self.assertIs(is_kept_lot(ASKS, 3, ((0, 3), (1, 4))), True)
        self.assertIs(is_kept_lot(ASKS, 2, ((0, 3), (3, 6))), True)
        self.assertIs(is_kept_lot(ASKS, 1, ()), True)
        self.assertIs(is_kept_lot(ASKS, 1, ((0, 3),)), False)
        self.assertIs(is_kept_lot((4, 4, 4), 1, ((0, 1), (1, 2))), True)
        self.assertIs(is_kept_lot((), 1, ()), True)
        self.assertIs(is_kept_lot((), 16, ((0, 1),)), False)
        self.assertIs(is_kept_lot((7,), 16, ((0, 0),)), False)

    def test_all_lots(self):
        rng = rng_of(1)
        for _ in range(150):
            asks = drawn_asks(rng, rng.randint(0, 9))
            for lot in all_lots(plain_stretches(asks)):
                for m in (1, 2, 3, 4, 16):
                    self.assertIs(is_kept_lot(asks, m, lot), is_lot(asks, m, lot))

    def test_any_value(self):
        for asks, lot in ((ASKS, ((0, 3), (1, 4), (3, 6), (4, 7))), ((1, 1, 1), ((0, 1), (1, 2))), ((0, 1, 0), ((0, 2),)), ((), ())):
            self.assertIs(is_kept_lot(asks, 16, lot), True)
            wrong = [lot[::-1] + lot, lot + lot[-1:], lot + ((),), lot + ((0,),), lot + ((0, 1, 2),), lot + ((9, 12),), lot + ((-1, 0),),
                     (lot,), lot + ((0, 4),), lot + ((0, 3), (0, 3)), lot + ((3, 0),), lot + (None,), ((True, 2),) + lot[2:]]
            for value in itertools.chain(broken(lot), WRONG_VALUES, wrong, (nested(40),)):
                if value != () or type(value) is not tuple:
                    self.assertIs(is_kept_lot(asks, 16, value), False, value)
        self.assertIs(is_kept_lot((1, 1), 2, ((0, 1),)), True)
        self.assertIs(is_kept_lot((1, 1), 2, ((False, True),)), False)
        self.assertIs(is_kept_lot((1, 1), 2, ((0, True),)), False)
        self.assertIs(is_kept_lot((1, 1), 2, ([0, 1],)), False)
        self.assertIs(is_kept_lot((1, 1), 2, [(0, 1)]), False)
        self.assertIs(is_kept_lot((1, 1), 2, ((0, 1.0),)), False)
        self.assertIs(is_kept_lot((1, 2, 1, 2), 3, ((1, 3), (0, 2))), False)
        self.assertIs(is_kept_lot((1, 2, 1, 2), 3, ((0, 2), (0, 2))), False)


class RoomsTest(unittest.TestCase):
    def test_kept_by(self):
        self.assertEqual(kept_by(ASKS, (0, 1, 1, 0, 1, 1, 0, 1)), ((0, 3), (3, 6)))
        self.assertEqual(kept_by((), ()), ())
        self.assertEqual(kept_by((2,), (0,)), ())
        self.assertEqual(kept_by((2, 2, 2), (0, 0, 1)), ((0, 1),))
        self.assertEqual(kept_by((1, 2, 2, 1), (0, 1, 1, 0)), ((0, 3), (1, 2)))

    def test_all_rows(self):
        for many in range(6):
            for asks in itertools.product(range(3), repeat=many):
                for row in itertools.product(range(3), repeat=many):
                    told = kept_by(asks, row)
                    self.assertEqual(told, plain_kept(asks, row))
                    self.assertTrue(is_lot(asks, 3, told))
                    self.assertTrue(2 in row or is_lot(asks, 2, told))

    def check(self, asks, m, kept):
        """Ask for rooms, and look at what they keep."""
        row = rooms_of(asks, m, kept)
        self.assertTrue(all_in_tuples(row))
        self.assertEqual(len(row), len(asks))
        self.assertTrue(all(0 <= room < m for room in row))
        self.assertLessEqual(set(kept), set(plain_kept(asks, row)))
        self.assertEqual(kept_by(asks, row), plain_kept(asks, row))

    def test_rooms_of(self):
        rng = rng_of(2)
        self.assertEqual(rooms_of((), 1, ()), ())
        self.assertEqual(rooms_of((5, 6, 5), 1, ()), (0, 0, 0))
        for _ in range(120):
            asks = drawn_asks(rng, rng.randint(0, 9))
            for lot in all_lots(plain_stretches(asks)):
                for m in (1, 2, 3, 16):
                    if is_lot(asks, m, lot):
                        self.check(asks, m, lot)

    def test_many_asks_soon(self):
        rng = rng_of(3)
        begin = time.time()
        for pages in (1, 5, 40, 400):
            asks = tuple(rng.randrange(pages) for _ in range(400))
            for m in (1, 2, 16):
                lot = []
                for stretch in stretches(asks):
                    if is_lot(asks, m, lot + [stretch]):
                        lot.append(stretch)
                self.assertIs(is_kept_lot(asks, m, tuple(lot)), True)
                self.check(asks, m, tuple(lot))
        self.assertLess(time.time() - begin, 60)


if __name__ == "__main__":
    unittest.main()
