"""Points 34 to 37: patterns, least rows, layers, from one standing to another one."""

import itertools
import time
import unittest

from fewestpours.below import pours_needed
from fewestpours.errors import Refused
from fewestpours.layers import is_layers, layers
from fewestpours.leastpours import least_pours, least_row, pours_between
from fewestpours.patterns import met_pattern, next_patterns, pattern
from fewestpours.standings import exchanged, is_met
from helpers import (
    WRONG_VALUES,
    all_in_tuples,
    all_pours,
    broken,
    distances,
    drawn_row,
    drawn_standing,
    drawn_wish,
    nested,
    plain_wish,
    plainly_poured,
    played,
    rng_of,
)

THREE = (2, ((0, 1), (2, 3), ()))
WISH = (0, 1, 1, 2)
SMALL = (
    (1, ((0,), (1,), (2,), (3,))), (2, ((0, 1), (2, 3), ())), (2, ((0, 1), (2,), (3, 4))), (3, ((0, 1, 2), (), (3,))),
    (2, ((0,), (1,), (), ())), (4, ((0, 1, 2, 3), (4,))), (1, ((0,), ())), (2, ((0, 1),)), (3, ((), ())),
)


def plain_pattern(standing, wish):
    """For each block what its records wish."""
    return tuple(tuple(sorted(wish[record] for record in block)) for block in standing[1])


def standing_with(b, told):
    """A standing with this pattern, and its wish."""
    wish = tuple(entry for block in told for entry in block)
    ends = [0, *itertools.accumulate(map(len, told))]
    return (b, tuple(tuple(range(begin, end)) for begin, end in itertools.pairwise(ends))), wish


def plain_next(b, m, told):
    """All other patterns to which a pour leads, by all pours."""
    standing, wish = standing_with(b, told)
    return {plain_pattern(plainly_poured(standing, pour), wish) for pour in all_pours(standing, m)} - {told}


def plain_rounds(standing, wish, m):
    """The patterns round by round, ahead of that in which the wish is met."""
    met = tuple((at,) * wish.count(at) for at in range(len(standing[1])))
    rounds = [{plain_pattern(standing, wish)}]
    seen = set(rounds[0])
    while met not in rounds[-1]:
        rounds.append(set().union(*[plain_next(standing[0], m, told) for told in rounds[-1]]) - seen)
        seen |= rounds[-1]
    return rounds[:-1]


def are_layers(standing, wish, m, value):
    """Whether ascending tuples of patterns are layers, as the document tells it."""
    first = plain_pattern(standing, wish)
    met = tuple((at,) * wish.count(at) for at in range(len(standing[1])))
    if value and value[0] != (first,):
        return False
    told = [one for layer in value for one in layer]
    if met in told or len(set(told)) < len(told) or () in value:
        return False
    if any(sorted(sum(one, ())) != sorted(wish) or max(map(len, one)) > standing[0] for one in told):
        return False
    for at, layer in enumerate(value[:-1]):
        near = set(sum(value[:at + 2], ()))
        if any(not plain_next(standing[0], m, one) <= near for one in layer):
            return False
    return True


class PatternsTest(unittest.TestCase):
    def test_examples(self):
        self.assertEqual(pattern(THREE, WISH), ((0, 1), (1, 2), ()))
        self.assertEqual(met_pattern(THREE, WISH), ((0,), (1, 1), (2,)))
        self.assertEqual(len(next_patterns(2, 2, ((0, 1), (1, 2), ()))), 9)

    def test_pattern(self):
        rng = rng_of(1)
        self.assertEqual(pattern((3, ((0, 1, 2), ())), (1, 0, 1)), ((0, 1, 1), ()))
        self.assertEqual((pattern((1, ((),)), ()), met_pattern((1, ((),)), ())), (((),), ((),)))
        for _ in range(300):
            standing = drawn_standing(rng, many=rng.randint(1, 4), b=2)
            wish = drawn_wish(rng, standing)
            told = pattern(standing, wish)
            self.assertEqual(told, plain_pattern(standing, wish))
            self.assertEqual(met_pattern(standing, wish), tuple((at,) * wish.count(at) for at in range(len(told))))
            self.assertTrue(all_in_tuples(told) and all_in_tuples(met_pattern(standing, wish)))
            self.assertEqual(told == met_pattern(standing, wish), is_met(standing, wish))

    def test_next_patterns(self):
        rng = rng_of(2)
        for _ in range(250):
            b, many = rng.randint(1, 3), rng.randint(1, 4)
            standing = drawn_standing(rng, many=many, b=b, records=rng.randint(0, min(b * many, 6)))
            told = pattern(standing, drawn_wish(rng, standing))
            for m in (2, 3, 4, 16):
                found = next_patterns(b, m, told)
                self.assertTrue(all_in_tuples(found))
                self.assertEqual(list(found), sorted(plain_next(b, m, told)))

    def test_edges_of_next_patterns(self):
        self.assertEqual(next_patterns(2, 2, ((0, 0),)), ())
        self.assertEqual(next_patterns(2, 2, ((), ())), ())
        self.assertEqual(next_patterns(1, 2, ((0,), (0,))), ())
        self.assertEqual(next_patterns(1, 2, ((0,), ())), (((), (0,)),))
        self.assertEqual(next_patterns(2, 2, ((0,), (1,))), (((), (0, 1)), ((0, 1), ()), ((1,), (0,))))
        self.assertEqual(len(next_patterns(1, 2, tuple((at,) for at in range(8)))), 28)
        self.assertEqual(len(next_patterns(8, 8, ((7,) * 8,) + ((),) * 7)), 6434)
        self.assertEqual(next_patterns(64, 2, ((3, 5), ())), (((), (3, 5)), ((3,), (5,)), ((5,), (3,))))

    def test_what_a_pour_leads_to(self):
        rng = rng_of(3)
        for _ in range(40):
            standing = drawn_standing(rng, many=4, b=2, records=rng.randint(0, 5))
            wish = drawn_wish(rng, standing)
            alls = {plain_pattern(one, wish) for one in distances(standing, 4)}
            first = plain_pattern(standing, wish)
            self.assertEqual(set(next_patterns(2, 4, first)), alls - {first})
            for m in (2, 3):
                near = {one for one in alls if 0 < sum(x != y for x, y in zip(one, first)) <= m}
                self.assertEqual(set(next_patterns(2, m, first)), near)


class LeastTest(unittest.TestCase):
    def check(self, standing, wish, m, least, most=10 ** 6):
        """Ask for the least number, a least row and layers, and look at them."""
        self.assertEqual(least_pours(standing, wish, m, most), least)
        row = least_row(standing, wish, m, most)
        self.assertTrue(is_met(played(standing, m, row), wish))
        told = layers(standing, wish, m, most)
        self.assertEqual((len(row), len(told)), (least, least))
        self.assertTrue(all_in_tuples(told))
        self.assertIs(is_layers(standing, wish, m, told), True)
        return told

    def test_all_small_ones(self):
        for standing in SMALL:
            for m in (2, 3, 4):
                known = distances(standing, m)
                for goal in known:
                    self.assertEqual(pours_between(standing, goal, m, 10 ** 5), known[goal])
                for goal in list(known)[::7] + list(known)[-3:]:
                    told = self.check(standing, plain_wish(goal), m, known[goal])
                    self.assertTrue(are_layers(standing, plain_wish(goal), m, told))

    def test_drawn_wishes(self):
        rng = rng_of(4)
        for _ in range(60):
            standing = drawn_standing(rng, many=rng.randint(2, 4), b=rng.randint(1, 2))
            m = rng.randint(2, 4)
            known, wish = distances(standing, m), drawn_wish(rng, standing)
            least = min(count for goal, count in known.items() if is_met(goal, wish))
            self.check(standing, wish, m, least)
            self.assertGreaterEqual(least, pours_needed(standing, wish, m))
            if len(standing[1]) == 2:
                self.assertEqual(least, 0 if is_met(standing, wish) else 1)

    def test_how_many_patterns_are_found(self):
        rng = rng_of(5)
        for _ in range(120):
            standing = drawn_standing(rng, many=rng.randint(2, 4), b=rng.randint(1, 2))
            wish, m = drawn_wish(rng, standing), rng.randint(2, 3)
            rounds = plain_rounds(standing, wish, m)
            enough = sum(map(len, rounds))
            self.check(standing, wish, m, len(rounds), enough)
            for most in {0, enough // 2, enough - 1} - {-1, enough}:
                for work in (least_pours, least_row, layers):
                    with self.assertRaises(Refused) as caught:
                        work(standing, wish, m, most)
                    self.assertEqual(caught.exception.at, most)
                with self.assertRaises(Refused) as caught:
                    goal = standing_meeting(standing, wish)
                    pours_between(standing, goal, m, min(most, 0))
                self.assertEqual(caught.exception.at, 0)

    def test_met_at_once(self):
        for standing, wish in ((THREE, (0, 0, 1, 1)), ((1, ((),)), ()), ((8, (tuple(range(8)),)), (0,) * 8)):
            self.assertEqual(self.check(standing, wish, 2, 0, 0), ())
            self.assertEqual(least_row(standing, wish, 2, 0), ())
            self.assertEqual(pours_between(standing, standing, 2, 0), 0)

    def test_examples(self):
        self.check(THREE, WISH, 2, 2, 1000)
        self.check(THREE, WISH, 3, 1, 1)
        self.assertEqual(layers(THREE, WISH, 3, 1), ((((0, 1), (1, 2), ()),),))
        with self.assertRaises(Refused) as caught:
            least_pours(THREE, WISH, 3, 0)
        self.assertEqual(caught.exception.at, 0)
        self.check(THREE, WISH, 2, 2, 10)
        for most in range(10):
            with self.assertRaises(Refused) as caught:
                layers(THREE, WISH, 2, most)
            self.assertEqual(caught.exception.at, most)

    def test_eight_records_in_eight_blocks(self):
        rng = rng_of(6)
        begin = time.time()
        for m in (2, 3, 4, 7, 8, 16):
            for b in (1, 2, 8):
                standing = drawn_standing(rng, b=b, many=8, records=8)
                wish = drawn_wish(rng, standing)
                try:
                    told = layers(standing, wish, m, 50000)
                except Refused as error:
                    self.assertEqual(error.at, 50000)
                else:
                    self.check(standing, wish, m, len(told), 50000)
        ring = (1, tuple((at,) for at in range(8)))
        self.check(ring, (1, 2, 3, 4, 5, 6, 7, 0), 2, 7, 40320)
        self.check(ring, (1, 2, 3, 4, 5, 6, 7, 0), 8, 1, 1)
        self.check(ring, (1, 0, 3, 2, 5, 4, 7, 6), 4, 2, 40320)
        self.check((8, (tuple(range(8)),) + ((),) * 7), (0, 1, 2, 3) * 2, 2, 3, 10 ** 6)
        self.assertLess(time.time() - begin, 60)


def standing_meeting(standing, wish):
    """The standing in which a wish is met."""
    blocks = [tuple(record for record, goal in enumerate(wish) if goal == at) for at in range(len(standing[1]))]
    return standing[0], tuple(blocks)


class LayersTest(unittest.TestCase):
    def test_any_value(self):
        for standing, wish, m in ((THREE, WISH, 2), ((1, ((0,), (1,), (2,))), (1, 2, 0), 2), (THREE, (0, 0, 1, 1), 2),
                                  ((2, ((0, 1), (2,))), (0, 1, 0), 3), ((1, ((),)), (), 2)):
            told = layers(standing, wish, m, 1000)
            self.assertIs(is_layers(standing, wish, m, told), True)
            for value in itertools.chain(broken(told), WRONG_VALUES, (nested(40),)):
                if value != () or type(value) is not tuple:
                    self.assertIs(is_layers(standing, wish, m, value), False, value)
            for at in range(len(told)):
                self.assertIs(is_layers(standing, wish, m, told[:at]), True)
                self.assertIs(is_layers(standing, wish, m, told[:at] + ((),)), False)
                self.assertIs(is_layers(standing, wish, m, told[:at] + (told[at][::-1],)), len(told[at]) == 1)
                self.assertIs(is_layers(standing, wish, m, told[:at] + (told[at] + told[at][-1:],)), False)

    def test_what_is_no_pattern_here(self):
        first = ((0, 1), (1, 2), ())
        for other in (((0, 1), (1, 2)), ((0, 1), (1, 2), (), ()), ((0, 1), (2, 1), ()), ((0, 1), (1, 1), ()), ((0, 1, 1), (2,), ()),
                      ((0, 1), (1,), ()), ((0, 1), (1, 2), (2,)), ((0, True), (1, 2), ()), ((False, 1), (1, 2), ()), ((0, 3), (1, 2), ()),
                      ((0, -1), (1, 2), ()), ([0, 1], (1, 2), ()), ((0.0, 1), (1, 2), ()), [(0, 1), (1, 2), ()], ((0, (1,)), (1, 2), ())):
            self.assertIs(is_layers(THREE, WISH, 2, ((other,),)), False)
            self.assertIs(is_layers(THREE, WISH, 2, ((first,), (other,))), False)
        self.assertIs(is_layers(THREE, WISH, 2, ((first,),)), True)
        self.assertIs(is_layers(THREE, WISH, 2, [(first,)]), False)
        self.assertIs(is_layers(THREE, WISH, 2, ([first],)), False)
        self.assertIs(is_layers(THREE, WISH, 2, ()), True)
        self.assertIs(is_layers(THREE, WISH, 3, ((first,),)), True)
        self.assertIs(is_layers(THREE, WISH, 3, ((first,), layers(THREE, WISH, 2, 100)[1])), False)

    def test_drawn_layers(self):
        rng = rng_of(7)
        counts = [0, 0]
        for _ in range(600):
            b, many = rng.randint(1, 2), rng.randint(2, 3)
            standing = drawn_standing(rng, many=many, b=b, records=rng.randint(1, min(b * many, 4)))
            wish, m = drawn_wish(rng, standing), 2
            rounds = [tuple(sorted(told)) for told in plain_rounds(standing, wish, m)]
            pool = sorted({plain_pattern(one, wish) for one in distances(standing, 2)})
            for _ in range(6):
                value = [list(told) for told in rounds]
                for _ in range(rng.randint(0, 2)):
                    kind, layer = rng.random(), rng.choice(value or [[]])
                    one = rng.choice(pool)
                    if kind < 0.3 and one not in layer:
                        layer.append(one)
                    elif kind < 0.6 and layer:
                        layer.remove(rng.choice(layer))
                    elif kind < 0.8:
                        value = value[:rng.randint(0, len(value))]
                    else:
                        value.append([one])
                value = tuple(tuple(sorted(layer)) for layer in value)
                wanted = are_layers(standing, wish, m, value)
                self.assertIs(is_layers(standing, wish, m, value), wanted, (standing, wish, value))
                counts[wanted] += 1
                self.assertTrue(not wanted or len(value) <= len(rounds))
        self.assertGreater(min(counts), 300)

    def test_layers_may_hold_more_than_rounds(self):
        standing, wish = (1, ((0,), (1,), (2,), (3,))), (1, 2, 3, 0)
        rounds = layers(standing, wish, 2, 100)
        self.assertEqual([len(told) for told in rounds], [1, 6, 11])
        moved = (rounds[0], tuple(sorted(rounds[1] + rounds[2][:1])), rounds[2][1:])
        self.assertIs(is_layers(standing, wish, 2, moved[:2]), True)
        self.assertIs(is_layers(standing, wish, 2, moved), are_layers(standing, wish, 2, moved))

    def test_a_pattern_that_comes_too_late(self):
        standing, wish = (1, ((0,), (1,), (2,), (3,))), (1, 2, 3, 0)
        first, second, third = layers(standing, wish, 2, 100)
        later = (first, second[1:], tuple(sorted(third + second[:1])))
        self.assertFalse(are_layers(standing, wish, 2, later))
        self.assertIs(is_layers(standing, wish, 2, later), False)
        self.assertIs(is_layers(standing, wish, 2, (first, second[1:], third)), False)
        self.assertIs(is_layers(standing, wish, 2, (first, second, third[1:])), False)
        self.assertIs(is_layers(standing, wish, 2, (first, second)), True)
        self.assertIs(is_layers(standing, wish, 2, (first, second, third[1:], third[:1])), False)
        self.assertIs(is_layers(standing, wish, 2, (first, second, third, third[:1])), False)

    def test_greatest_ones_are_looked_at_soon(self):
        begin = time.time()
        standing = (8, (tuple(range(8)),) + ((),) * 7)
        first = pattern(standing, (7,) + tuple(range(7)))
        for m in (2, 8, 16):
            self.assertIs(is_layers(standing, (7,) + tuple(range(7)), m, ((first,),)), True)
            self.assertIs(is_layers(standing, (7,) + tuple(range(7)), m, ((first,), (first,))), False)
            other = ((), first[0]) + ((),) * 6
            self.assertIs(is_layers(standing, (7,) + tuple(range(7)), m, ((first,), (other,))), False)
        self.assertLess(time.time() - begin, 10)


class BetweenTest(unittest.TestCase):
    def test_facts(self):
        rng = rng_of(8)
        for _ in range(40):
            b, many = rng.randint(1, 2), rng.randint(2, 4)
            one = drawn_standing(rng, many=many, b=b, records=rng.randint(0, min(b * many, 5)))
            other, third = (drawn_row(rng, one, 2, rng.randint(0, 4))[1] for _ in range(2))
            told = [pours_between(one, other, m, 10 ** 5) for m in (2, 3, 4)]
            self.assertEqual(told[0] == 0, one == other)
            self.assertEqual(told, [pours_between(other, one, m, 10 ** 5) for m in (2, 3, 4)])
            self.assertEqual(told, sorted(told, reverse=True))
            self.assertLessEqual(told[0], pours_between(one, third, 2, 10 ** 5) + pours_between(third, other, 2, 10 ** 5))
            for m, least in ((3, told[1]), (4, told[2])):
                self.assertLessEqual(told[0], least * m * (m - 1) // 2)
            self.assertEqual(told[0], distances(one, 2)[other])

    def test_alike_records_may_be_exchanged(self):
        rng = rng_of(9)
        for _ in range(60):
            standing = drawn_standing(rng, many=3, b=2)
            wish = drawn_wish(rng, standing)
            least = least_pours(standing, wish, 2, 10 ** 4)
            for one, other in itertools.combinations(range(len(wish)), 2):
                if wish[one] == wish[other]:
                    self.assertEqual(least_pours(exchanged(standing, one, other), wish, 2, 10 ** 4), least)

    def test_refused(self):
        one, other = (1, ((0,), (1,), (2,))), (1, ((1,), (2,), (0,)))
        self.assertEqual(pours_between(one, other, 2, 4), 2)
        for most in range(4):
            with self.assertRaises(Refused) as caught:
                pours_between(one, other, 2, most)
            self.assertEqual(caught.exception.at, most)


if __name__ == "__main__":
    unittest.main()
