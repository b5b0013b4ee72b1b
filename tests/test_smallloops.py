"""Point 63: the fewest steps of loops with at most eight points."""

import itertools
import time
import unittest

from fewestpours.errors import Refused
from fewestpours.loopbounds import moves_at_least
from fewestpours.smallloops import best_walk, fewest_in
from fewestpours.walks import best_tile, is_walk, walk_moves
from helpers import all_in_tuples, all_points, play_walk

SMALL = [sides for sides in itertools.product(range(1, 9), repeat=3) if sides[0] * sides[1] * sides[2] <= 8]


def entries_of(sides):
    """All entries of these sides."""
    return sorted({entry for i, j, k in all_points(sides) for entry in ((0, i, k), (1, k, j), (2, i, j))})


def fewest_by_search(sides, room):
    """The fewest steps "in", by a search over all rooms and all lots of points done."""
    numbers = {entry: 1 << at for at, entry in enumerate(entries_of(sides))}
    needed = [numbers[0, i, k] | numbers[1, k, j] | numbers[2, i, j] for i, j, k in all_points(sides)]
    every, moves = (1 << len(needed)) - 1, 0
    found, reached = {(0, 0)}, [(0, 0)]
    while True:
        # All that needs no further step "in": points that are done, entries that leave.
        for held, done in reached:
            if done == every:
                return moves
            now = done
            for at, lot in enumerate(needed):
                if lot & held == lot:
                    now |= 1 << at
            for later in [(held, now)] + [(held & ~bit, now) for bit in numbers.values() if held & bit]:
                if later not in found:
                    found.add(later)
                    reached.append(later)
        following = []
        for held, done in reached:
            if bin(held).count("1") < room:
                for bit in numbers.values():
                    if not held & bit and (held | bit, done) not in found:
                        found.add((held | bit, done))
                        following.append((held | bit, done))
        reached, moves = following, moves + 1


def fewest_by_orders(sides, room):
    """The fewest steps "in" of all orders of the points, the first one being the first; out goes what is needed last."""
    points = all_points(sides)
    lots = {(i, j, k): ((0, i, k), (1, k, j), (2, i, j)) for i, j, k in points}
    best = None
    for order in itertools.permutations(points[1:]):
        order = (points[0],) + order
        held, moves = set(), 0
        for at, point in enumerate(order):
            needed = set(lots[point])
            moves += len(needed - held)
            others = [(min([later for later in range(at, len(order)) if entry in lots[order[later]]], default=99), entry)
                      for entry in held - needed]
            held = needed | {entry for _, entry in sorted(others)[:room - 3]}
        best = moves if best is None else min(best, moves)
    return best


class SmallLoopsTest(unittest.TestCase):
    def test_examples(self):
        self.assertEqual((fewest_in((2, 2, 2), 4), fewest_in((2, 2, 2), 12)), (14, 12))

    def test_against_a_search(self):
        for sides in ((1, 1, 1), (1, 1, 2), (2, 1, 1), (1, 3, 1), (1, 2, 2), (2, 1, 2), (2, 2, 1), (1, 1, 4)):
            for room in (3, 4, 5, 6, 20):
                self.assertEqual(fewest_in(sides, room), fewest_by_search(sides, room), (sides, room))
        for sides, room in (((1, 2, 3), 3), ((3, 2, 1), 4)):
            self.assertEqual(fewest_in(sides, room), fewest_by_search(sides, room), (sides, room))

    def test_eight_points_by_all_orders(self):
        for room in (3, 4, 5):
            self.assertEqual(fewest_in((2, 2, 2), room), fewest_by_orders((2, 2, 2), room))

    def test_walks(self):
        for sides in SMALL:
            for room in (*range(3, 9), 12, 17, 18, 4096):
                told, walk = fewest_in(sides, room), best_walk(sides, room)
                self.assertEqual(play_walk(sides, room, walk), told, (sides, room))
                self.assertEqual(walk_moves(walk), told)
                self.assertIs(is_walk(sides, room, walk), True)
                self.assertTrue(all_in_tuples(walk))
                self.assertTrue(moves_at_least(sides, room) <= told <= best_tile(sides, room)[0])

    def test_facts(self):
        for sides in SMALL:
            told = [fewest_in(sides, room) for room in (3, 4, 5, 6, 7, 8, 9, 12, 17, 18)]
            self.assertEqual(told, sorted(told, reverse=True))
            self.assertEqual(fewest_in(sides, max(3, len(entries_of(sides)))), len(entries_of(sides)))
            self.assertEqual(told[-1], len(entries_of(sides)))
            for turned in set(itertools.permutations(sides)) if sides == tuple(sorted(sides)) else ():
                for room in (3, 4, 6):
                    self.assertEqual(fewest_in(turned, room), told[room - 3])

    def test_more_points_are_refused(self):
        for sides, many in (((3, 3, 1), 9), ((9, 1, 1), 9), ((1, 9, 1), 9), ((1, 1, 9), 9), ((2, 2, 3), 12), ((64, 64, 64), 262144)):
            for tell in (fewest_in, best_walk):
                with self.assertRaises(Refused) as caught:
                    tell(sides, 3)
                self.assertEqual(caught.exception.at, many)
        self.assertEqual((fewest_in((8, 1, 1), 3), fewest_in((1, 1, 8), 3)), (17, 17))

    def test_within_seconds(self):
        start = time.monotonic()
        for room in (*range(3, 40), 100, 1000, 4096):
            self.assertEqual(walk_moves(best_walk((2, 2, 2), room)), fewest_in((2, 2, 2), room))
        self.assertLess(time.monotonic() - start, 10)


if __name__ == "__main__":
    unittest.main()
