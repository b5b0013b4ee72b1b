"""Points 11 and 12: errands and how they are written."""

import itertools
import unittest

from fewestpours.errands import is_errand, joined_errand, relabelled_errand, renamed_errand, turned_errand
from fewestpours.errandtexts import errand_text, errand_tokens
from fewestpours.errors import Refused
from fewestpours.pours import behind
from fewestpours.tokens import tokens_of
from helpers import (
    WRONG_VALUES,
    all_in_tuples,
    broken,
    drawn_errand,
    drawn_row,
    drawn_wish,
    nested,
    plain_wish,
    rng_of,
)

EMPTY = (2, (1, ((),)), (), ())


class ErrandsTest(unittest.TestCase):
    def test_errands(self):
        rng = rng_of(1)
        self.assertIs(is_errand(EMPTY), True)
        for _ in range(40):
            errand = drawn_errand(rng)
            m, standing, wish, row = errand
            self.assertIs(is_errand(errand), True)
            for value in itertools.chain(broken(errand), (errand + ((),), errand[:3])):
                self.assertIs(is_errand(value), False, value)
            other = drawn_wish(rng, standing)
            self.assertIs(is_errand((m, standing, other, row)), other == wish)

    def test_any_value(self):
        for value in WRONG_VALUES + (nested(2000), (nested(40),) * 4):
            self.assertIs(is_errand(value), False)
            for at in range(4):
                fits = (value == () and at > 1) or (type(value) is int and value == 7 and at == 0)
                self.assertIs(is_errand(EMPTY[:at] + (value,) + EMPTY[at + 1:]), fits, (at, value))

    def test_limits(self):
        for m in range(20):
            self.assertIs(is_errand((m,) + EMPTY[1:]), 2 <= m <= 16)
        standing = (1, tuple((at,) for at in range(5)))
        row = (((0, 1, 2, 3, 4), ((4,), (0,), (1,), (2,), (3,))),)
        self.assertIs(is_errand((5, standing, (1, 2, 3, 4, 0), row)), True)
        self.assertIs(is_errand((4, standing, (1, 2, 3, 4, 0), row)), False)

    def test_other_names(self):
        rng = rng_of(2)
        for _ in range(60):
            errand = drawn_errand(rng)
            m, (b, blocks), wish, row = errand
            names = rng.sample(range(len(blocks)), len(blocks))
            new = renamed_errand(errand, names)
            self.assertIs(is_errand(new), True)
            self.assertTrue(all_in_tuples(new))
            self.assertEqual([new[1][1][name] for name in names], list(blocks))
            self.assertEqual(new[2], tuple(names[goal] for goal in wish))
            for pour, other in zip(row, new[3]):
                pairs = sorted((names[at], part) for at, part in zip(*pour))
                self.assertEqual(other, tuple(zip(*pairs)))
            turned = [names.index(at) for at in range(len(names))]
            self.assertEqual(renamed_errand(new, tuple(turned)), errand)

    def test_other_labels(self):
        rng = rng_of(3)
        for _ in range(60):
            errand = drawn_errand(rng)
            m, (b, blocks), wish, row = errand
            names = rng.sample(range(len(wish)), len(wish))
            new = relabelled_errand(errand, names)
            self.assertIs(is_errand(new), True)
            self.assertTrue(all_in_tuples(new))
            self.assertEqual([set(block) for block in new[1][1]], [{names[x] for x in block} for block in blocks])
            self.assertEqual([new[2][name] for name in names], list(wish))
            self.assertEqual([pour[0] for pour in new[3]], [pour[0] for pour in row])
            for (_, parts), (_, others) in zip(row, new[3]):
                self.assertEqual(others, tuple(tuple(sorted(names[x] for x in part)) for part in parts))
            turned = [names.index(at) for at in range(len(names))]
            self.assertEqual(relabelled_errand(new, tuple(turned)), errand)

    def test_turned(self):
        rng = rng_of(4)
        for _ in range(60):
            errand = drawn_errand(rng)
            turned = turned_errand(errand)
            self.assertIs(is_errand(turned), True)
            self.assertEqual(turned[0], errand[0])
            self.assertEqual(turned[1], behind(errand[1], errand[0], errand[3]))
            self.assertEqual(turned[2], plain_wish(errand[1]))
            self.assertEqual(len(turned[3]), len(errand[3]))
            self.assertEqual(turned_errand(turned), errand)

    def test_joined(self):
        rng = rng_of(5)
        for _ in range(60):
            errand = drawn_errand(rng)
            m, standing, wish, row = errand
            last = behind(standing, m, row)
            further, end = drawn_row(rng, last, m, 2)
            other = (m, last, plain_wish(end), further)
            joined = joined_errand(errand, other)
            self.assertEqual(joined, (m, standing, plain_wish(end), row + further))
            self.assertIs(is_errand(joined), True)
            self.assertEqual(turned_errand(joined), joined_errand(turned_errand(other), turned_errand(errand)))

    def test_joined_refuses(self):
        one = (2, (1, ((0,), ())), (1,), (((0, 1), ((), (0,))),))
        for other, at in (
            ((3, (1, ((), (0,))), (1,), ()), 0), ((3, (1, ((0,), ())), (0,), ()), 0), ((2, (1, ((0,), ())), (0,), ()), 1),
            ((2, (2, ((), (0,))), (1,), ()), 1), ((2, (1, ((), (0,), ())), (1,), ()), 1),
        ):
            with self.assertRaises(Refused) as caught:
                joined_errand(one, other)
            self.assertEqual(caught.exception.at, at)
        self.assertEqual(joined_errand(one, (2, (1, ((), (0,))), (1,), ())), one)


class WritingTest(unittest.TestCase):
    def test_tokens(self):
        errand = (2, (2, ((0, 1), (2, 3), ())), (0, 1, 1, 0), (((0, 1), ((0, 3), (1, 2))),))
        told = ("rooms 2 ; size 2 ; block 0 : 0 1 ; block 1 : 2 3 ; block 2 : ; wish : 0 1 1 0 ; "
                "pour 0 1 : 0 3 , 1 2 ; done")
        self.assertEqual(errand_tokens(errand), tuple(told.split()))
        self.assertEqual(errand_tokens(EMPTY), tuple("rooms 2 ; size 1 ; block 0 : ; wish : ; done".split()))
        empty = (16, (64, ((), ())), (), (((0, 1), ((), ())),))
        told = "rooms 16 ; size 64 ; block 0 : ; block 1 : ; wish : ; pour 0 1 : , ; done"
        self.assertEqual(errand_tokens(empty), tuple(told.split()))
        self.assertEqual(tokens_of(errand_text(empty)), tuple(told.split()))

    def test_texts(self):
        rng = rng_of(6)
        seen = {}
        for _ in range(200):
            errand = drawn_errand(rng)
            tokens = errand_tokens(errand)
            self.assertTrue(all_in_tuples(tokens))
            self.assertEqual(tokens_of(errand_text(errand)), tokens)
            self.assertEqual(seen.setdefault(tokens, errand), errand)
            self.assertEqual((tokens.count("done"), tokens[-1]), (1, "done"))

    def test_long_errands_have_short_texts(self):
        row = (((0, 1), ((), ())),) * 5000
        self.assertLess(len(errand_text((2, (1, ((), ())), (), row))), 100000)


if __name__ == "__main__":
    unittest.main()
