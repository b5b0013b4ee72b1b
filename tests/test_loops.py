"""Points 60 to 62: shadows, loops over tables from below, and from above."""

import itertools
import math
import time
import unittest

from fewestpours.loopbounds import bound_by, moves_at_least
from fewestpours.shadows import most_by_shadows, needs, shadows
from fewestpours.walks import best_tile, is_walk, tile_moves, tile_room, tile_walk, walk_moves
from helpers import WRONG_VALUES, all_in_tuples, all_points, broken, nested, play_walk, rng_of

# How many there are of u, v and w, told as indexes of the sides.
TURNS = ((0, 2, 1), (2, 1, 0), (0, 1, 2))


def plain_tile_moves(sides, tile):
    """The steps "in" of a tile walk, piece by piece."""
    table, x, y = tile
    many_u, many_v, many_w = (sides[at] for at in TURNS[table])
    moves = 0
    for u in range(0, many_u, x):
        for v in range(0, many_v, y):
            wide, high = min(x, many_u - u), min(y, many_v - v)
            moves += wide * high + many_w * (wide + high)
    return moves


def all_tiles(sides):
    """All tiles."""
    for table in range(3):
        many_u, many_v, _ = (sides[at] for at in TURNS[table])
        for x, y in itertools.product(range(1, many_u + 1), range(1, many_v + 1)):
            yield table, x, y


def plain_needs(point):
    """The entries that a point needs."""
    i, j, k = point
    return (0, i, k), (1, k, j), (2, i, j)


def plain_walk(sides):
    """A walk that brings in three entries for each point."""
    steps = []
    for point in all_points(sides):
        steps += [("in", entry) for entry in plain_needs(point)] + [("do", point)] + [("out", entry) for entry in plain_needs(point)]
    return tuple(steps)


class ShadowsTest(unittest.TestCase):
    def test_needs(self):
        self.assertEqual(needs((0, 1, 2)), ((0, 0, 2), (1, 2, 1), (2, 0, 1)))
        for point in all_points((3, 2, 4)):
            self.assertEqual(needs(point), plain_needs(point))
        self.assertEqual(needs((63, 62, 61)), ((0, 63, 61), (1, 61, 62), (2, 63, 62)))

    def test_shadows(self):
        self.assertEqual(shadows([(0, 0, 0), (0, 1, 0), (1, 0, 0)]), (2, 2, 3))
        self.assertEqual((shadows(()), shadows([]), shadows(((5, 6, 7),))), ((0, 0, 0), (0, 0, 0), (1, 1, 1)))
        rng = rng_of(60)
        for _ in range(200):
            points = rng.sample(all_points((3, 3, 3)), rng.randint(0, 27))
            kept = list(points)
            told = shadows(points)
            self.assertEqual(told, tuple(len({plain_needs(point)[table] for point in points}) for table in range(3)))
            self.assertEqual(points, kept)
            self.assertEqual(shadows(tuple(points)), told)
            self.assertTrue(all_in_tuples(told))

    def test_fact(self):
        # All lots of points of a box of 8, and drawn ones of a greater box.
        rng = rng_of(61)
        points = all_points((2, 2, 2))
        lots = [lot for many in range(9) for lot in itertools.combinations(points, many)]
        lots += [tuple(rng.sample(all_points((3, 4, 3)), rng.randint(1, 36))) for _ in range(300)]
        for lot in lots:
            a, b, c = shadows(lot)
            boxes = [sorted({point[at] for point in lot}) for at in range(3)]
            is_box = len(lot) == len(boxes[0]) * len(boxes[1]) * len(boxes[2])
            self.assertLessEqual(len(lot) ** 2, a * b * c)
            self.assertIs(len(lot) ** 2 == a * b * c, is_box, lot)
            self.assertLessEqual(len(lot), most_by_shadows(a + b + c))

    def test_boxes(self):
        for sides in ((1, 1, 1), (2, 3, 4), (5, 1, 2), (4, 4, 4)):
            box = all_points(sides)
            a, b, c = shadows(box)
            self.assertEqual(len(box) ** 2, a * b * c)
            if len(box) > 1:
                a, b, c = shadows(box[:-1])
                self.assertEqual((len(box) - 1) ** 2 == a * b * c, sides[1:] == (1, 1) or sides[:2] == (1, 1) or sides[::2] == (1, 1))

    def test_most_by_all_three_numbers(self):
        for total in range(61):
            greatest = max(a * b * (total - a - b) for a in range(total + 1) for b in range(total + 1 - a))
            self.assertEqual(most_by_shadows(total), math.isqrt(greatest), total)
        self.assertEqual([most_by_shadows(total) for total in (0, 1, 2, 3, 12, 20)], [0, 0, 0, 1, 8, 17])
        told = most_by_shadows(20000)
        self.assertTrue(told ** 2 <= 6666 * 6667 * 6667 < (told + 1) ** 2)
        for total in range(2000, 20000, 777):
            told, third = most_by_shadows(total), total // 3
            greatest = max(a * b * (total - a - b) for a in range(third - 2, third + 3) for b in range(third - 2, third + 3))
            self.assertTrue(told ** 2 <= greatest < (told + 1) ** 2)


class BelowTest(unittest.TestCase):
    def test_bounds(self):
        self.assertEqual((bound_by((64, 64, 64), 100, 50), moves_at_least((64, 64, 64), 100)), (37101, 52462))
        self.assertEqual(moves_at_least((2, 2, 2), 4), 12)
        rng = rng_of(62)
        for _ in range(300):
            sides = tuple(rng.randint(1, 64) for _ in range(3))
            room, t = rng.choice((3, 4, 100, 4096, rng.randint(3, 4096))), rng.choice((1, 2, 15904, rng.randint(1, 15904)))
            parts = -(-math.prod(sides) // most_by_shadows(room + t))
            self.assertEqual(bound_by(sides, room, t), t * (parts - 1) + 1)
        self.assertEqual((bound_by((1, 1, 1), 3, 1), bound_by((64, 64, 64), 4096, 15904)), (1, 1))
        self.assertEqual((bound_by((2, 2, 2), 3, 1), bound_by((64, 64, 64), 3, 1)), (8, 262144))

    def test_the_greatest(self):
        rng = rng_of(63)
        for sides in [(1, 1, 1), (1, 1, 64), (2, 2, 2), (5, 4, 3), (64, 1, 64)] + [tuple(rng.randint(1, 12) for _ in range(3)) for _ in range(20)]:
            p, q, r = sides
            for room in (3, 4, 9, 100, 4096):
                told = [bound_by(sides, room, t) for t in range(1, 3000) if most_by_shadows(room + t) < p * q * r]
                self.assertEqual(moves_at_least(sides, room), max([p * r + r * q + p * q, *told]), (sides, room))
        self.assertEqual((moves_at_least((1, 1, 1), 3), moves_at_least((64, 64, 64), 4096)), (3, 12288))

    def test_from_both_sides(self):
        rng = rng_of(64)
        for _ in range(60):
            sides = tuple(rng.randint(1, 20) for _ in range(3))
            room = rng.choice((3, 4, 5, 17, 100, 1500))
            self.assertLessEqual(moves_at_least(sides, room), best_tile(sides, room)[0])

    def test_within_seconds(self):
        start = time.monotonic()
        for room in (3, 100, 4096):
            at_least, (moves, tile) = moves_at_least((64, 64, 64), room), best_tile((64, 64, 64), room)
            self.assertTrue(at_least <= moves and tile_room(tile) <= room)
        self.assertLess(time.monotonic() - start, 10)


class WalksTest(unittest.TestCase):
    def test_small_walks(self):
        walk = (("in", (0, 0, 0)), ("in", (1, 0, 0)), ("in", (2, 0, 0)), ("do", (0, 0, 0)))
        self.assertIs(is_walk((1, 1, 1), 3, walk), True)
        self.assertEqual((walk_moves(walk), walk_moves(()), walk_moves(plain_walk((2, 2, 2)))), (3, 0, 24))
        for sides in ((1, 1, 1), (2, 3, 1), (1, 2, 4), (3, 3, 3)):
            walk = plain_walk(sides)
            for room in (3, 4, 4096):
                self.assertIs(is_walk(sides, room, walk), True)
                self.assertEqual(play_walk(sides, room, walk), walk_moves(walk))
        self.assertIs(is_walk((1, 1, 1), 3, ()), False)

    def test_wrong_walks(self):
        sides = (1, 2, 1)
        walk = plain_walk(sides)
        self.assertIs(is_walk(sides, 3, walk), True)
        wrong = [walk[:at] + walk[at + 1:] for at in range(len(walk)) if walk[at][0] != "out" or at < 7]
        # A step once more, a point once more, an entry that is not there.
        wrong += [walk[:at + 1] + walk[at:] for at in range(len(walk))]
        wrong += [walk + (("do", (0, 0, 0)),), walk + (("out", (0, 0, 0)),), (("out", (0, 0, 0)),) + walk, walk + (("in", (0, 1, 0)),)]
        wrong += [walk + (("in", (3, 0, 0)),), walk + (("in", (1, 0, 2)),), walk + (("in", (2, 0, 2)),), walk + (("in", (2, 1, 0)),)]
        wrong += [walk + (("do", (0, 2, 0)),), walk + (("do", (1, 0, 0)),), walk + (("up", (0, 0, 0)),), walk + (("in", (-1, 0, 0)),)]
        for value in wrong:
            self.assertIs(is_walk(sides, 3, value), False, value)
        # The last entries need not leave; those that are not needed may come.
        for at in (11, 12, 13):
            self.assertIs(is_walk(sides, 3, walk[:at]), True)
        self.assertIs(is_walk(sides, 4, walk + (("in", (0, 0, 0)), ("out", (0, 0, 0)), ("in", (0, 0, 0)))), True)
        # A room that overflows by one.
        full = tuple(("in", entry) for entry in ((0, 0, 0), (1, 0, 0), (1, 0, 1), (2, 0, 0), (2, 0, 1)))
        full += (("do", (0, 0, 0)), ("do", (0, 1, 0)))
        for room in (3, 4, 5, 6):
            self.assertIs(is_walk(sides, room, full), room >= 5)

    def test_any_value(self):
        sides = (1, 2, 2)
        walk = tile_walk(sides, (0, 1, 1))
        self.assertIs(is_walk(sides, 3, walk), True)
        for value in itertools.chain(broken(walk), WRONG_VALUES, (nested(40), (walk,), (list(walk[0]),) + walk[1:], ((["in"], walk[0][1]),) + walk[1:])):
            self.assertIs(is_walk(sides, 3, value), False, value)
        one = plain_walk((1, 1, 1))
        for wrong in (False, 0.0, "0", None, (0,), [0]):
            self.assertIs(is_walk((1, 1, 1), 3, (("in", (0, wrong, 0)),) + one[1:]), False)
            self.assertIs(is_walk((1, 1, 1), 3, one[:3] + (("do", (0, 0, wrong)),)), False)

    def test_drawn_walks(self):
        rng = rng_of(65)
        found = []
        for _ in range(400):
            sides, room = (2, 1, 2), rng.randint(3, 5)
            walk = list(plain_walk(sides))
            for _ in range(rng.randint(0, 3)):
                one, other = rng.randrange(len(walk)), rng.randrange(len(walk))
                walk[one], walk[other] = walk[other], walk[one]
            found.append(play_walk(sides, room, walk) is not None)
            self.assertIs(is_walk(sides, room, tuple(walk)), found[-1])
        self.assertTrue(True in found and False in found)


class TilesTest(unittest.TestCase):
    def test_examples(self):
        self.assertEqual(best_tile((64, 64, 64), 100), (61440, (0, 8, 11)))
        self.assertEqual((tile_room((0, 8, 11)), tile_moves((64, 64, 64), (0, 8, 11))), (97, 61440))
        self.assertEqual((best_tile((2, 2, 2), 4), walk_moves(tile_walk((2, 2, 2), (0, 1, 2)))), ((16, (0, 1, 2)), 16))

    def test_rooms_and_moves(self):
        for tile in ((0, 1, 1), (1, 5, 3), (2, 3, 5), (0, 64, 64)):
            self.assertEqual(tile_room(tile), tile[1] * tile[2] + min(tile[1:]) + 1)
        rng = rng_of(66)
        for sides in [(1, 1, 1), (3, 2, 5), (1, 4, 2)] + [tuple(rng.randint(1, 64) for _ in range(3)) for _ in range(3)]:
            for tile in all_tiles(sides):
                self.assertEqual(tile_moves(sides, tile), plain_tile_moves(sides, tile), (sides, tile))

    def test_walks_played(self):
        rng = rng_of(67)
        for sides in [(1, 1, 1), (2, 2, 2), (1, 4, 2), (3, 2, 5), (4, 3, 3)] + [tuple(rng.randint(1, 6) for _ in range(3)) for _ in range(6)]:
            for tile in all_tiles(sides):
                walk = tile_walk(sides, tile)
                self.assertEqual(play_walk(sides, tile_room(tile), walk), plain_tile_moves(sides, tile), (sides, tile))
                self.assertEqual(walk_moves(walk), tile_moves(sides, tile))
                self.assertIs(is_walk(sides, tile_room(tile), walk), True)
                self.assertTrue(all_in_tuples(walk))

    def test_a_whole_table_and_one_entry(self):
        for sides in ((2, 3, 4), (5, 5, 5), (1, 1, 7)):
            for table in range(3):
                many_u, many_v, many_w = (sides[at] for at in TURNS[table])
                self.assertEqual(tile_moves(sides, (table, many_u, many_v)), many_u * many_v + many_w * (many_u + many_v))
                self.assertEqual(tile_moves(sides, (table, 1, 1)), many_u * many_v * (1 + 2 * many_w))
                self.assertEqual(tile_room((table, 1, 1)), 3)

    def test_the_best_of_all(self):
        rng = rng_of(68)
        for sides in [(1, 1, 1), (2, 2, 2), (1, 9, 3)] + [tuple(rng.randint(1, 12) for _ in range(3)) for _ in range(12)]:
            for room in (3, 4, 5, 10, 30, 200, 4096):
                fitting = [tile for tile in all_tiles(sides) if tile[1] * tile[2] + min(tile[1:]) + 1 <= room]
                told = best_tile(sides, room)
                self.assertEqual(told, min((plain_tile_moves(sides, tile), tile) for tile in fitting))
                self.assertTrue(all_in_tuples(told))
        # With room for a whole table and more each entry comes once.
        for sides in ((5, 6, 7), (1, 1, 1), (16, 16, 16)):
            p, q, r = sides
            self.assertEqual(best_tile(sides, 4096)[0], p * r + r * q + p * q)
            self.assertEqual(moves_at_least(sides, 4096), p * r + r * q + p * q)

    def test_within_seconds(self):
        start = time.monotonic()
        for tile in ((0, 16, 16), (1, 1, 1), (2, 5, 3), (1, 16, 1), (0, 3, 16)):
            walk = tile_walk((16, 16, 16), tile)
            self.assertEqual(play_walk((16, 16, 16), tile_room(tile), walk), tile_moves((16, 16, 16), tile))
            self.assertIs(is_walk((16, 16, 16), tile_room(tile), walk), True)
        self.assertLess(time.monotonic() - start, 10)


if __name__ == "__main__":
    unittest.main()
