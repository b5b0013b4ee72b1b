"""Points 58 and 59: networks, and networks of blocks."""

import itertools
import time
import unittest

from fewestpours.blocknetworks import least_network, merging_network, run_blocks
from fewestpours.errors import Refused
from fewestpours.networks import is_sorting, run_network, unsorted_row
from fewestpours.pours import is_pour
from helpers import WRONG_VALUES, all_in_tuples, broken, nested, rng_of


class Word:
    """A word that can be compared, and nothing else."""

    def __init__(self, key, tag):
        self.key, self.tag = key, tag

    def __lt__(self, other):
        return self.key < other.key


def plain_run(network, words):
    """The words behind a network."""
    held = list(words)
    for i, j in network:
        held[i], held[j] = sorted((held[i], held[j]))
    return tuple(held)


def plain_unsorted(n, network):
    """The least row of numbers 0 and 1 that is left out of order."""
    for row in itertools.product((0, 1), repeat=n):
        told = plain_run(network, row)
        if list(told) != sorted(told):
            return row
    return None


def all_pairs(n):
    """All pairs of places."""
    return list(itertools.combinations(range(n), 2))


def drawn_network(rng, n, many):
    """Some network."""
    return tuple(rng.choice(all_pairs(n)) for _ in range(many)) if n > 1 else ()


def least_pairs(n):
    """The least number of pairs of a network that sorts, by trying all of them, one pair more each time.

    Of networks that leave the same rows of numbers 0 and 1 only one is kept.
    """
    rounds, reached = 0, {frozenset(itertools.product((0, 1), repeat=n))}
    done = frozenset((0,) * (n - ones) + (1,) * ones for ones in range(n + 1))
    seen = set(reached)
    while done not in reached:
        later = set()
        for rows in reached:
            for pair in all_pairs(n):
                later.add(frozenset(plain_run((pair,), row) for row in rows))
        reached = later - seen
        seen |= reached
        rounds += 1
    return rounds


class NetworksTest(unittest.TestCase):
    def test_run(self):
        self.assertEqual(run_network(((0, 1), (1, 2)), (3, 2, 1)), (2, 1, 3))
        self.assertEqual(run_network((), (3, 2, 1)), (3, 2, 1))
        self.assertEqual(run_network((), ()), ())
        self.assertEqual(run_network(((0, 2),), ("b", "c", "a")), ("a", "c", "b"))
        self.assertEqual(run_network(((0, 1),), ((2, 1), (1, 9))), ((1, 9), (2, 1)))
        rng = rng_of(58)
        for _ in range(300):
            n = rng.randint(1, 7)
            network = drawn_network(rng, n, rng.randint(0, 12))
            words = tuple(rng.randint(0, 4) for _ in range(n))
            told = run_network(network, words)
            self.assertEqual(told, plain_run(network, words))
            self.assertTrue(all_in_tuples(told))

    def test_words_that_can_be_compared(self):
        one, other, third = Word(1, "x"), Word(1, "y"), Word(0, "z")
        told = run_network(((0, 1), (1, 2), (0, 1)), (one, other, third))
        self.assertIs(told[0], third)
        self.assertEqual(sorted(word.tag for word in told), ["x", "y", "z"])

    def test_unsorted_rows(self):
        self.assertEqual(unsorted_row(3, ((0, 1), (1, 2))), (1, 1, 0))
        self.assertEqual((unsorted_row(1, ()), unsorted_row(2, ()), unsorted_row(3, ())), (None, (1, 0), (0, 1, 0)))
        self.assertIsNone(unsorted_row(2, ((0, 1),)))
        self.assertEqual(unsorted_row(12, ()), (0,) * 10 + (1, 0))
        for n in (2, 3):
            for many in range(4):
                for network in itertools.product(all_pairs(n), repeat=many):
                    self.assertEqual(unsorted_row(n, network), plain_unsorted(n, network), network)
                    self.assertIs(is_sorting(n, network), plain_unsorted(n, network) is None)
        rng = rng_of(59)
        for _ in range(200):
            n = rng.randint(1, 7)
            network = drawn_network(rng, n, rng.randint(0, 18))
            told = unsorted_row(n, network)
            self.assertEqual(told, plain_unsorted(n, network))
            self.assertTrue(all_in_tuples(told))

    def test_rows_of_words_go_as_those_of_0_and_1(self):
        for n in (2, 3, 4):
            rng = rng_of(n)
            for _ in range(60):
                network = drawn_network(rng, n, rng.randint(0, 6))
                all_well = all(list(plain_run(network, words)) == sorted(words) for words in itertools.product(range(n), repeat=n))
                self.assertIs(is_sorting(n, network), all_well)

    def test_any_value(self):
        well = ((0, 1), (1, 2), (0, 1))
        self.assertIs(is_sorting(3, well), True)
        wrong = (((1, 0), (1, 2), (0, 1)), well + ((2, 2),), well + ((0, 3),), well + ((-1, 1),), well + ((0, 1, 2),), well + ((0,),),
                 well + ((False, True),), well + ((0, True),), well + ((0, 1.0),), (well,), well[0], list(well), ([0, 1],) + well, well + ("01",))
        for value in itertools.chain(broken(well), WRONG_VALUES, wrong, (nested(40),)):
            self.assertIs(is_sorting(3, value), False, value)
        self.assertIs(is_sorting(1, ()), True)
        for value in WRONG_VALUES:
            self.assertIs(is_sorting(1, value), value == () and type(value) is tuple)
        self.assertIs(is_sorting(2, ((0, 1),) * 1000), True)
        self.assertIs(is_sorting(2, ()), False)

    def test_more_places_are_refused_first(self):
        for n in (13, 14, 64, 10 ** 100):
            for value in (((0, 1),), (), ((0, n - 1),)):
                with self.assertRaises(Refused) as caught:
                    unsorted_row(n, value)
                self.assertEqual(caught.exception.at, n)
            for value in (((0, 1),), None, [], ((1, 0),), 5):
                with self.assertRaises(Refused) as caught:
                    is_sorting(n, value)
                self.assertEqual(caught.exception.at, n)
        self.assertIs(is_sorting(12, merging_network(12)), True)
        self.assertIsNone(unsorted_row(12, merging_network(12)))

    def test_within_seconds(self):
        start = time.monotonic()
        rng = rng_of(60)
        for _ in range(5):
            network = drawn_network(rng, 12, 64)
            self.assertEqual(unsorted_row(12, network), plain_unsorted(12, network))
        network = merging_network(12)
        for at in range(len(network)):
            self.assertIs(is_sorting(12, network[:at] + network[at + 1:] * 2), plain_unsorted(12, network[:at] + network[at + 1:] * 2) is None)
        self.assertLess(time.monotonic() - start, 30)


class BlocksTest(unittest.TestCase):
    def test_run_blocks(self):
        self.assertEqual(run_blocks(((0, 1), (1, 2), (0, 1)), ((9, 4), (7, 1), (2, 3))), ((1, 2), (3, 4), (7, 9)))
        self.assertEqual(run_blocks((), ((3, 1, 2),)), ((1, 2, 3),))
        self.assertEqual(run_blocks(((0, 1),), (("b", "d"), ("c", "a"))), (("a", "b"), ("c", "d")))
        self.assertEqual(run_blocks(((0, 1),), ((2, 2), (2, 2))), ((2, 2), (2, 2)))

    def test_pair_by_pair(self):
        rng = rng_of(61)
        for _ in range(200):
            n, size = rng.randint(1, 5), rng.randint(1, 4)
            network = drawn_network(rng, n, rng.randint(0, 8))
            blocks = tuple(tuple(rng.randint(0, 9) for _ in range(size)) for _ in range(n))
            held = [sorted(block) for block in blocks]
            for i, j in network:
                words = sorted(held[i] + held[j])
                held[i], held[j] = words[:size], words[size:]
            told = run_blocks(network, blocks)
            self.assertEqual(told, tuple(map(tuple, held)))
            self.assertTrue(all_in_tuples(told))

    def test_blocks_of_one_word_are_words(self):
        rng = rng_of(62)
        for _ in range(50):
            n = rng.randint(1, 6)
            network = drawn_network(rng, n, rng.randint(0, 10))
            words = tuple(rng.randint(0, 5) for _ in range(n))
            self.assertEqual(run_blocks(network, tuple((word,) for word in words)), tuple((word,) for word in run_network(network, words)))

    def test_what_sorts_words_sorts_blocks_and_nothing_else_does(self):
        rng = rng_of(63)
        for _ in range(60):
            n = rng.randint(1, 4)
            network = drawn_network(rng, n, rng.randint(0, 7))
            row = plain_unsorted(n, network)
            for size in (1, 2, 3):
                for _ in range(5):
                    blocks = tuple(tuple(rng.randint(0, 9) for _ in range(size)) for _ in range(n))
                    words = [word for block in run_blocks(network, blocks) for word in block]
                    if row is None:
                        self.assertEqual(words, sorted(word for block in blocks for word in block))
                if row is not None:
                    words = [word for block in run_blocks(network, tuple((bit,) * size for bit in row)) for word in block]
                    self.assertNotEqual(words, sorted(words))

    def test_pairs_are_pours(self):
        # The words of a standing are its records: each pair is a pour of two blocks.
        blocks = ((5, 2), (4, 1), (0, 3))
        for many in range(len(merging_network(3))):
            ahead = run_blocks(merging_network(3)[:many], blocks)
            later = run_blocks(merging_network(3)[:many + 1], blocks)
            pair = merging_network(3)[many]
            self.assertIs(is_pour((2, ahead), 2, (pair, (later[pair[0]], later[pair[1]]))), True)

    def test_merging_networks(self):
        self.assertEqual((merging_network(1), merging_network(2)), ((), ((0, 1),)))
        for n in range(1, 65):
            network = merging_network(n)
            k = min(k for k in range(8) if 2 ** k >= n)
            self.assertTrue(all_in_tuples(network))
            self.assertTrue(all(len(pair) == 2 and 0 <= pair[0] < pair[1] < n for pair in network))
            self.assertLessEqual(4 * len(network), n * k * (k + 1))
        for n in range(1, 13):
            self.assertIs(is_sorting(n, merging_network(n)), True)
            self.assertTrue(n > 7 or plain_unsorted(n, merging_network(n)) is None)

    def test_great_merging_networks(self):
        rng = rng_of(64)
        # All rows of 0 and 1 at once, each place a great number whose bits are what the rows have there.
        for n in range(13, 21):
            places = []
            for place in range(n):
                places.append((1 << (1 << place)) - 1)
                for doubled in range(place + 1, n):
                    places[place] |= places[place] << (1 << doubled)
            for i, j in merging_network(n):
                places[i], places[j] = places[i] & places[j], places[i] | places[j]
            self.assertFalse(any(one & ~other for one, other in zip(places, places[1:])), n)
        for n in (21, 31, 32, 33, 48, 62, 63, 64):
            network = merging_network(n)
            for _ in range(60):
                words = tuple(rng.choice((rng.randint(0, 1), rng.randint(0, 99))) for _ in range(n))
                self.assertEqual(run_network(network, words), tuple(sorted(words)))
            # Rows of 1 and then 0, of any lengths, and rows that were put together from two in order.
            for ones in range(n + 1):
                self.assertEqual(sum(run_network(network, (1,) * ones + (0,) * (n - ones))[:n - ones]), 0)
                for many in range(0, n + 1, 5):
                    row = ((0,) * many + (1,) * n)[:ones] + ((0,) * (n - many) + (1,) * n)[:n - ones]
                    self.assertEqual(run_network(network, row), tuple(sorted(row)))

    def test_least_networks(self):
        for n in range(1, 6):
            network = least_network(n)
            self.assertTrue(all_in_tuples(network))
            self.assertIs(is_sorting(n, network), True)
            self.assertIsNone(plain_unsorted(n, network))
            self.assertEqual(len(network), least_pairs(n))
        self.assertEqual([len(least_network(n)) for n in range(1, 6)], [0, 1, 3, 5, 9])
        for n in (6, 7, 64, 10 ** 50):
            with self.assertRaises(Refused) as caught:
                least_network(n)
            self.assertEqual(caught.exception.at, n)


if __name__ == "__main__":
    unittest.main()
