"""Points 5, 6 and 9: standings, wishes, other names."""

import unittest

from fewestpours.errors import InvalidStanding
from fewestpours.pours import meets, poured
from fewestpours.standings import (
    alike_records,
    block_of,
    crowds,
    exchanged,
    is_met,
    is_standing,
    is_wish,
    record_count,
    renamed_blocks,
    renamed_wish,
    standing_of,
    wish_of,
)
from helpers import (
    WRONG_VALUES,
    all_in_tuples,
    broken,
    distances,
    drawn_row,
    drawn_standing,
    drawn_wish,
    nested,
    plain_wish,
    rng_of,
)


class StandingsTest(unittest.TestCase):
    def test_standings(self):
        for value in ((1, ((),)), (64, ((),) * 64), (2, ((0, 1), (), (2, 3))), (1, ((1,), (0,))), (3, ((0, 2), (1,)))):
            self.assertIs(is_standing(value), True, value)
        full = (16, tuple(tuple(range(at, at + 16)) for at in range(0, 1024, 16)))
        self.assertIs(is_standing(full), True)
        self.assertEqual(record_count(full), 1024)
        self.assertIs(is_standing((64, tuple(tuple(range(at, at + 64)) for at in range(0, 1024, 64)))), True)

    def test_edges_beyond(self):
        many = tuple(tuple(range(at, min(at + 64, 1025))) for at in range(0, 1025, 64))
        for value in (
            (0, ((),)), (65, ((),)), (2, ()), (2, ((),) * 65), (1, ((0, 1),)), (2, ((0, 1, 2),)), (64, many),
            (2, ((0, 2),)), (2, ((1,),)), (2, ((0, 0),)), (2, ((1, 0),)), (2, ((0,), (0,))), (2, ((0, 1), (1,))),
            (2, ((0,),), ()), (2,), (2, ((0,), 1)), (2, ((0, 10 ** 3000),)), (True, ((),)), (1, ((False,),)),
            (2, ((0, True),)), (2, (((0,),),)), (2, nested(1000)), ("2", ((),)), (2.0, ((),)), (2, "01"), (2, ("", "")),
            [2, ((),)], (2, [(0,)]), (2, ([0],)),
        ):
            self.assertIs(is_standing(value), False, value)

    def test_any_value(self):
        for value in WRONG_VALUES:
            self.assertIs(is_standing(value), False, value)
        rng = rng_of(1)
        for _ in range(30):
            standing = drawn_standing(rng)
            self.assertIs(is_standing(standing), True)
            for value in broken(standing):
                self.assertIs(is_standing(value), False, value)

    def test_count_and_block(self):
        rng = rng_of(2)
        for _ in range(50):
            standing = drawn_standing(rng)
            self.assertEqual(record_count(standing), sum(map(len, standing[1])))
            for at, block in enumerate(standing[1]):
                for record in block:
                    self.assertEqual(block_of(standing, record), at)

    def test_standing_of(self):
        self.assertEqual(standing_of(2, [[1, 0], (3, 2), []]), (2, ((0, 1), (2, 3), ())))
        self.assertEqual(standing_of(b=1, blocks=([],)), (1, ((),)))
        rng = rng_of(3)
        for _ in range(50):
            b, blocks = drawn_standing(rng)
            told = [rng.sample(block, len(block)) for block in blocks]
            kept = [list(block) for block in told]
            made = standing_of(b, told)
            self.assertEqual(made, (b, blocks))
            self.assertTrue(all_in_tuples(made))
            self.assertEqual(told, kept)
            told[0].append(99)
            self.assertEqual(made, (b, blocks))

    def test_standing_of_refuses(self):
        for b in (0, 65, -1, True, False, None, "2", 2.0, [2], (2,), 10 ** 3000):
            for blocks in ([[]], [[0]], None, [[True]]):
                self.assert_refused(0, b, blocks)
        blocks = (
            None, 1, "", "ab", {}, set(), [], (), [None], [1], ["ab"], [""], [{}], [[True]], [[False]], [[-1]], [["0"]],
            [[0.0]], [[None]], [[0, [1]]], [[0, 0]], [[0], [0]], [[1]], [[0, 2]], [[0, 1, 2]], [[]] * 65, range(2),
            [range(1)], [[10 ** 3000]], [b"\x00"],
        )
        for told in blocks:
            self.assert_refused(1, 2, told)
        self.assert_refused(1, 64, [list(range(at, min(at + 64, 1025))) for at in range(0, 1025, 64)])
        self.assert_refused(1, 1, [[1, 0]])

    def assert_refused(self, at, b, blocks):
        with self.assertRaises(InvalidStanding) as caught:
            standing_of(b, blocks)
        self.assertEqual(caught.exception.at, at, (b, blocks))


class WishesTest(unittest.TestCase):
    def test_wishes(self):
        standing = (2, ((0, 1), (2,), ()))
        for wish in ((0, 1, 2), (2, 2, 0), (0, 0, 1)):
            self.assertIs(is_wish(standing, wish), True)
        for wish in ((0, 0, 0), (0, 1), (0, 1, 2, 0), (0, 1, 3), (0, 1, -1), (True, 1, 0), (0, 1, None), [0, 1, 2], (),
                     (0, 1, "2"), (0, 1, (2,)), (0, 1, 10 ** 3000), "012", None):
            self.assertIs(is_wish(standing, wish), False, wish)
        self.assertIs(is_wish((1, ((),)), ()), True)
        self.assertIs(is_wish((1, ((), ())), []), False)
        full = (16, tuple(tuple(range(at, at + 16)) for at in range(0, 1024, 16)))
        self.assertIs(is_wish(full, tuple(at % 64 for at in range(1024))), True)
        self.assertIs(is_wish(full, (1,) + tuple(at % 64 for at in range(1, 1024))), False)

    def test_any_value(self):
        rng = rng_of(4)
        for _ in range(30):
            standing = drawn_standing(rng, records=rng.randint(1, 1 + rng.randint(0, 3)), b=4)
            wish = drawn_wish(rng, standing)
            self.assertIs(is_wish(standing, wish), True)
            for value in list(broken(wish)) + [wish + (0,), wish[:-1]]:
                self.assertIs(is_wish(standing, value), False, value)
            for value in WRONG_VALUES:
                if type(value) is not tuple or len(value) != len(wish):
                    self.assertIs(is_wish(standing, value), False, value)

    def test_crowds(self):
        rng = rng_of(5)
        for _ in range(100):
            standing = drawn_standing(rng)
            wish = drawn_wish(rng, standing)
            table = crowds(standing, wish)
            blocks = range(len(standing[1]))
            plain = tuple(tuple(sum(wish[record] == goal for record in standing[1][at]) for goal in blocks) for at in blocks)
            self.assertEqual(table, plain)
            self.assertTrue(all_in_tuples(table))
            self.assertEqual([sum(row) for row in table], [len(block) for block in standing[1]])
            is_apart = all(table[at][goal] == 0 for at in blocks for goal in blocks if at != goal)
            self.assertIs(is_met(standing, wish), is_apart)
            self.assertIs(is_met(standing, plain_wish(standing)), True)

    def test_wish_of(self):
        rng = rng_of(6)
        for _ in range(100):
            standing = drawn_standing(rng)
            b, blocks = standing
            least = -(-record_count(standing) // len(blocks))
            other = drawn_standing(rng, rng.randint(max(1, least), b), len(blocks), record_count(standing))
            wish = wish_of(standing, other)
            self.assertIs(is_wish(standing, wish), True)
            self.assertIs(is_met(other, wish), True)
            self.assertEqual(is_met(standing, wish), standing[1] == other[1])
        self.assertEqual(wish_of((1, ((),)), (1, ((),))), ())


class NamesTest(unittest.TestCase):
    def test_renamed(self):
        standing = (2, ((0, 1), (2,), ()))
        self.assertEqual(renamed_blocks(standing, (2, 0, 1)), (2, ((2,), (), (0, 1))))
        self.assertEqual(renamed_wish((0, 1, 2), (2, 0, 1)), (2, 0, 1))
        names = [1, 2, 0]
        self.assertTrue(all_in_tuples(renamed_blocks(standing, names)))
        self.assertTrue(all_in_tuples(renamed_wish((0, 0, 1), names)))
        self.assertEqual(names, [1, 2, 0])

    def test_rows_go_along_with_names(self):
        rng = rng_of(7)
        for _ in range(50):
            standing = drawn_standing(rng, many=rng.randint(2, 5))
            row, last = drawn_row(rng, standing, 3, 3)
            names = rng.sample(range(len(standing[1])), len(standing[1]))
            other = renamed_blocks(standing, names)
            self.assertIs(is_standing(other), True)
            for at, name in enumerate(names):
                self.assertEqual(other[1][name], standing[1][at])
            wish = plain_wish(last)
            new_wish = renamed_wish(wish, names)
            self.assertIs(is_wish(other, new_wish), True)
            for who, parts in row:
                pairs = sorted((names[at], part) for at, part in zip(who, parts))
                other = poured(other, 3, tuple(zip(*pairs)))
            self.assertIs(is_met(other, new_wish), True)

    def test_exchanged(self):
        standing = (2, ((0, 3), (1, 2)))
        self.assertEqual(exchanged(standing, 0, 2), (2, ((2, 3), (0, 1))))
        self.assertEqual(exchanged(standing, 0, 3), standing)
        self.assertEqual(exchanged(standing, 1, 1), standing)
        self.assertIs(alike_records(standing, (0, 1, 0, 1), 0, 2), True)
        self.assertIs(alike_records(standing, (0, 1, 0, 1), 0, 1), False)
        self.assertIs(alike_records(standing, (0, 1, 0, 1), 3, 3), True)

    def test_alike_records_may_be_exchanged(self):
        rng = rng_of(8)
        for _ in range(5):
            standing = drawn_standing(rng, 2, 3, 4)
            far = distances(standing, 2)
            wish = drawn_wish(rng, standing)
            least = least_to(far, wish)
            for one in range(4):
                for other in range(4):
                    turned = exchanged(standing, one, other)
                    self.assertIs(is_standing(turned), True)
                    if alike_records(standing, wish, one, other):
                        self.assertEqual(least_to(distances(turned, 2), wish), least)
            self.assertIs(meets(standing, wish, 2, ()), least == 0)


def least_to(far, wish):
    """The least number of pours to a standing in which the wish is met."""
    return min(count for standing, count in far.items() if is_met(standing, wish))


if __name__ == "__main__":
    unittest.main()
