"""Points 24 to 28: measures, bounds, running, what is lost, reads."""

import itertools
import math
import time
import unittest

from fewestpours.below import MEASURES, bound_by, measured, pours_needed
from fewestpours.belowpapers import is_paper_below, paper_below
from fewestpours.depths import least_depths
from fewestpours.diskmachine import first_state, run
from fewestpours.gains import depth_gain, is_full
from fewestpours.pours import back, behind, meets
from fewestpours.readbounds import is_reads_paper, read_measure, reads_needed
from fewestpours.running import is_surely_least, running, waste
from fewestpours.standings import crowds, is_met
from helpers import (
    WRONG_VALUES,
    all_in_tuples,
    broken,
    distances,
    drawn_pour,
    drawn_row,
    drawn_standing,
    drawn_wish,
    nested,
    plain_wish,
    plainly_poured,
    rng_of,
    split,
)
from test_machine import drawn_program, fewest_reads

TWO = (2, ((0, 1), (2, 3)))
TURN = (0, 1, 0, 1)
ROW = (((0, 1), ((0, 2), (1, 3))),)


def fan(standing, m):
    """How many blocks a pour may have; 2 for one block."""
    return min(m, len(standing[1])) if len(standing[1]) > 1 else 2


def plain_measured(standing, wish, m, measure):
    """The triple of a measure, by the words of the document."""
    b, blocks = standing
    w = fan(standing, m)
    table = [x for row in crowds(standing, wish) for x in row]
    if "back" in measure:
        last = [len(block) for block in blocks]
    else:
        last = [wish.count(at) for at in range(len(blocks))]
    if "powers" in measure:
        return math.prod(x ** x for x in table), math.prod(x ** x for x in last), w ** (w * b)
    return sum(least_depths(x, w) for x in table), sum(least_depths(x, w) for x in last), w * b


def plain_bound(standing, wish, m, measure):
    """The least t that is enough."""
    first, last, most = plain_measured(standing, wish, m, measure)
    for t in itertools.count():
        if (first * most ** t if "powers" in measure else first + most * t) >= last:
            return t


def drawn_question(rng, **kinds):
    """Some standing, wish and m."""
    standing = drawn_standing(rng, **kinds)
    return standing, drawn_wish(rng, standing), rng.choice((2, 2, 3, 4, 5, 16))


def dealt(b, many):
    """A standing of full blocks, and a wish by which the records of each block are dealt to all blocks in turn."""
    blocks = tuple(tuple(range(at, at + b)) for at in range(0, b * many, b))
    return (b, blocks), tuple(x % many for x in range(b * many))


class MeasuresTest(unittest.TestCase):
    def test_measures(self):
        rng = rng_of(1)
        for _ in range(200):
            standing, wish, m = drawn_question(rng, b=rng.randint(1, 9))
            for measure in MEASURES:
                told = measured(standing, wish, m, measure)
                self.assertEqual(told, plain_measured(standing, wish, m, measure))
                self.assertTrue(all_in_tuples(told))
                self.assertEqual(bound_by(standing, wish, m, measure), plain_bound(standing, wish, m, measure))
            bounds = [plain_bound(standing, wish, m, measure) for measure in MEASURES]
            self.assertEqual(pours_needed(standing, wish, m), max(bounds))
            self.assertEqual(paper_below(standing, wish, m), (MEASURES[bounds.index(max(bounds))], max(bounds)))

    def test_edges(self):
        one = (3, ((0, 1, 2),))
        self.assertEqual(measured(one, (0, 0, 0), 16, "powers"), (27, 27, 64))
        self.assertEqual(measured(one, (0, 0, 0), 16, "depths back"), (5, 5, 6))
        self.assertEqual(measured((1, ((),)), (), 2, "powers back"), (1, 1, 4))
        self.assertEqual(measured((1, ((), ())), (), 5, "depths"), (0, 0, 2))
        self.assertEqual(measured((2, ((0,), (), (1,))), (0, 2), 2, "powers"), (1, 1, 16))
        self.assertEqual(measured((2, ((0,), (), (1,))), (0, 2), 16, "powers"), (1, 1, 3 ** 6))
        for standing in (one, (1, ((),)), (1, ((), ()))):
            wish = (0,) * sum(map(len, standing[1]))
            for measure in MEASURES:
                self.assertEqual(bound_by(standing, wish, 2, measure), 0)
            self.assertEqual(paper_below(standing, wish, 2), ("powers", 0))
            self.assertEqual(reads_needed(standing, wish, 2), 0)

    def test_where_the_wish_is_met_first_is_last(self):
        rng = rng_of(2)
        for _ in range(100):
            standing = drawn_standing(rng, b=rng.randint(1, 9))
            for measure in MEASURES:
                first, last, _ = measured(standing, plain_wish(standing), 3, measure)
                self.assertEqual(first, last)

    def test_no_pour_gains_more_than_most(self):
        rng = rng_of(3)
        for _ in range(200):
            standing, wish, m = drawn_question(rng, many=rng.randint(2, 5), b=rng.randint(1, 9))
            later = plainly_poured(standing, drawn_pour(rng, standing, m))
            for measure in MEASURES[:2]:
                first, _, most = measured(standing, wish, m, measure)
                then = measured(later, wish, m, measure)[0]
                self.assertLessEqual(then, first * most if measure == "powers" else first + most)

    def test_no_row_has_fewer_pours(self):
        rng = rng_of(4)
        kinds = [(b, many, records) for b in (1, 2, 3) for many in (1, 2, 3) for records in range(min(6, b * many) + 1)]
        for b, many, records in kinds:
            standing = drawn_standing(rng, b, many, records)
            for m in (2, 3):
                far = distances(standing, m)
                for other in far:
                    self.assertLessEqual(pours_needed(standing, plain_wish(other), m), far[other])

    def test_dealt(self):
        for b, many in ((1, 1), (2, 2), (3, 3), (2, 4), (4, 4), (8, 8), (5, 6), (16, 64), (7, 64)):
            standing, wish = dealt(b, many)
            for m in (2, 3, 4, 16):
                w = fan(standing, m)
                self.assertEqual(measured(standing, wish, m, "powers")[0], 1)
                self.assertEqual(measured(standing, wish, m, "depths")[0], 0)
                bound = -(-many * least_depths(b, w) // (w * b))
                self.assertEqual(bound_by(standing, wish, m, "depths"), bound)
        self.assertEqual(bound_by(*dealt(16, 64), 2, "depths"), 128)
        self.assertEqual(bound_by(*dealt(16, 64), 2, "powers"), 128)


class PapersTest(unittest.TestCase):
    def test_papers(self):
        rng = rng_of(5)
        for _ in range(60):
            standing, wish, m = drawn_question(rng, b=rng.randint(2, 9))
            self.assertIs(is_paper_below(standing, wish, m, paper_below(standing, wish, m)), True)
            for measure in MEASURES:
                bound = bound_by(standing, wish, m, measure)
                for number in range(bound + 3):
                    self.assertIs(is_paper_below(standing, wish, m, (measure, number)), number <= bound)

    def test_any_value(self):
        for measure in MEASURES:
            for value in itertools.chain(broken((measure, 1)), broken((measure, 0)), WRONG_VALUES, (nested(2000),), (
                    (measure,), (measure, 1, 1), (measure, measure), (1, measure), ((measure, 1),), (measure, 10 ** 3999),
                    (measure.upper(), 0), ("", 0), (None, 0), ([measure], 0), (measure + " ", 0), (b"powers", 0))):
                self.assertIs(is_paper_below(TWO, TURN, 2, value), False, value)
        self.assertIs(is_paper_below(TWO, TURN, 2, ("depths", 1)), True)
        self.assertIs(is_paper_below(TWO, (0, 0, 1, 1), 2, ("depths", 0)), True)
        self.assertIs(is_paper_below(TWO, (0, 0, 1, 1), 2, ("depths", 1)), False)


class RunningTest(unittest.TestCase):
    def test_running(self):
        rng = rng_of(6)
        for _ in range(100):
            standing, wish, m = drawn_question(rng, b=rng.randint(1, 9))
            row, last = drawn_row(rng, standing, m, rng.randint(0, 5))
            wish = rng.choice((wish, plain_wish(last)))
            told = running(standing, wish, m, row)
            self.assertTrue(all_in_tuples(told))
            self.assertEqual(len(told), len(row) + 1)
            for many, pair in enumerate(told):
                held = behind(standing, m, row[:many])
                self.assertEqual(pair, (bound_by(held, wish, m, "powers"), bound_by(held, wish, m, "depths")))
            for pair, later in zip(told, told[1:]):
                self.assertTrue(pair[0] <= later[0] + 1 and pair[1] <= later[1] + 1)
            if is_met(last, wish):
                self.assertEqual(told[-1], (0, 0))
        self.assertEqual(running((1, ((),)), (), 2, ()), ((0, 0),))

    def test_waste(self):
        rng = rng_of(7)
        for _ in range(100):
            standing, _, m = drawn_question(rng, b=rng.randint(1, 9))
            row, last = drawn_row(rng, standing, m, rng.randint(0, 5))
            wish = plain_wish(last)
            lost = waste(standing, wish, m, row)
            self.assertTrue(all_in_tuples(lost))
            w = fan(standing, m)
            held = standing
            for pour, number in zip(row, lost):
                self.assertEqual(number, w * standing[0] - depth_gain(held, wish, w, pour))
                self.assertGreaterEqual(number, 0)
                held = plainly_poured(held, pour)
            first, end, most = measured(standing, wish, m, "depths")
            self.assertEqual(sum(lost), most * len(row) - end + first)
            self.assertIs(len(row) == bound_by(standing, wish, m, "depths"), sum(lost) < most)
        self.assertEqual(waste(TWO, TURN, 2, ROW), (0,))
        self.assertEqual(waste(TWO, TURN, 2, ROW + back(TWO, 2, ROW)), (0, 8))
        self.assertEqual(waste(TWO, TURN, 16, ROW), (0,))

    def test_powers_and_depths(self):
        rng = rng_of(8)
        for _ in range(300):
            standing, wish, m = drawn_question(rng, b=rng.randint(1, 9))
            w = fan(standing, m)
            even = {0, *(w ** k for k in range(8))}
            by_powers, by_depths = (bound_by(standing, wish, m, measure) for measure in MEASURES[:2])
            if {x for row in crowds(standing, wish) for x in row} <= even:
                self.assertGreaterEqual(by_depths, by_powers)
            if {wish.count(at) for at in range(len(standing[1]))} <= even:
                self.assertLessEqual(by_depths, by_powers)

    def test_surely_least(self):
        self.assertIs(is_surely_least(TWO, TURN, 2, ROW), True)
        self.assertIs(is_surely_least(TWO, TURN, 16, ROW), True)
        self.assertIs(is_surely_least(TWO, TURN, 2, ROW * 2), False)
        self.assertIs(is_surely_least(TWO, TURN, 2, ROW + back(TWO, 2, ROW) + ROW), False)
        self.assertIs(is_surely_least(TWO, TURN, 2, ()), False)
        self.assertIs(is_surely_least(TWO, (0, 0, 1, 1), 2, ()), True)
        self.assertIs(is_surely_least(TWO, (0, 0, 1, 1), 2, []), False)
        self.assertIs(is_surely_least((1, ((),)), (), 2, ()), True)
        for value in itertools.chain(broken(ROW), WRONG_VALUES, (nested(2000),)):
            self.assertIs(is_surely_least(TWO, TURN, 2, value), False, value)

    def test_full_pours_make_least_rows(self):
        standing, wish = dealt(4, 4)
        row = []
        for pairs in (((0, 1), (2, 3)), ((0, 2), (1, 3))):
            for one, other in pairs:
                held = behind(standing, 2, tuple(row))[1]
                pool = held[one] + held[other]
                step = other - one
                parts = tuple(tuple(sorted(x for x in pool if wish[x] // step % 2 == side)) for side in (0, 1))
                row.append(((one, other), parts))
        row = tuple(row)
        self.assertIs(meets(standing, wish, 2, row), True)
        self.assertEqual(waste(standing, wish, 2, row), (0, 0, 0, 0))
        self.assertIs(is_surely_least(standing, wish, 2, row), True)
        self.assertEqual(running(standing, wish, 2, row), ((4, 4), (3, 3), (2, 2), (1, 1), (0, 0)))
        for at, pour in enumerate(row):
            self.assertIs(is_full(behind(standing, 2, row[:at]), wish, 2, pour), True)


class ReadsTest(unittest.TestCase):
    def test_read_measure(self):
        state = (2, (None, (0,), None, (4, 5)), ((1, None), None, (3, 2)))
        self.assertEqual(read_measure(state, (0, 0, 1, 0, 3, 3)), 2 ** 2 * 2 ** 2)
        self.assertEqual(read_measure(state, (0, 0, 0, 0, 3, 2)), 3 ** 3)
        self.assertEqual(read_measure((1, ((),), (None, None)), ()), 1)
        rng = rng_of(9)
        for _ in range(100):
            standing, wish, m = drawn_question(rng, b=rng.randint(1, 6))
            self.assertEqual(read_measure(first_state(standing, m), wish), measured(standing, wish, m, "powers")[0])
            _, states = drawn_program(rng, standing, m, 20)
            for _, blocks, rooms in states:
                rows = [block for block in blocks if block is not None]
                rows.append([x for room in rooms if room for x in room if x is not None])
                table = [[wish[x] for x in row].count(at) for row in rows for at in range(len(blocks))]
                told = read_measure((standing[0], blocks, rooms), wish)
                self.assertEqual(told, math.prod(x ** x for x in table))

    def test_what_steps_gain(self):
        rng = rng_of(10)
        for _ in range(100):
            standing, wish, _ = drawn_question(rng, b=rng.randint(1, 6), many=rng.randint(2, 5))
            m = rng.randint(2, 5)
            b, w = standing[0], fan(standing, m)
            program, states = drawn_program(rng, standing, m, 40)
            for instruction, ahead, later in zip(program, states, states[1:]):
                first, then = read_measure(ahead, wish), read_measure(later, wish)
                if instruction[0] == "swap":
                    self.assertEqual(first, then)
                elif instruction[0] == "write":
                    self.assertLessEqual(then, first)
                else:
                    self.assertLessEqual(then * (w - 1) ** ((w - 1) * b), first * w ** (w * b))

    def test_reads_needed(self):
        rng = rng_of(11)
        for _ in range(150):
            standing, wish, m = drawn_question(rng, b=rng.randint(1, 9))
            b, w = standing[0], fan(standing, m)
            first, last, _ = measured(standing, wish, m, "powers")
            reads = reads_needed(standing, wish, m)
            self.assertGreaterEqual(first * w ** (w * b * reads), last * (w - 1) ** ((w - 1) * b * reads))
            if reads:
                less = reads - 1
                self.assertLess(first * w ** (w * b * less), last * (w - 1) ** ((w - 1) * b * less))
            self.assertGreaterEqual(reads, bound_by(standing, wish, m, "powers"))
            for number in range(reads + 3):
                self.assertIs(is_reads_paper(standing, wish, m, number), number <= reads)
        self.assertEqual(reads_needed(TWO, TURN, 2), 1)

    def test_no_program_reads_less(self):
        for standing in ((1, ((0,), (1,), (2,))), (2, ((0, 1), (2, 3))), (2, ((0, 1), (2,)))):
            for other, reads in fewest_reads(standing, 2, 4).items():
                self.assertLessEqual(reads_needed(standing, plain_wish(other), 2), reads)
                self.assertLessEqual(pours_needed(standing, plain_wish(other), 2), reads)

    def test_any_value(self):
        for value in itertools.chain(WRONG_VALUES, ((1,), [1], "1", 1.0, -1, 2, 10 ** 3999, nested(2000))):
            is_right = type(value) is int and value in (0, 1)
            self.assertIs(is_reads_paper(TWO, TURN, 2, value), is_right, value)


class LargeTest(unittest.TestCase):
    def test_large(self):
        rng = rng_of(12)
        begun = time.time()
        for b, many in ((16, 64), (64, 16), (64, 64)):
            standing = (b, split(rng, range(1024), b, many))
            for m in (2, 16):
                row, last = drawn_row(rng, standing, m, 150)
                wish = plain_wish(last)
                needed = pours_needed(standing, wish, m)
                self.assertGreaterEqual(needed, 1)
                self.assertEqual(running(standing, wish, m, row)[-1], (0, 0))
                self.assertGreaterEqual(min(waste(standing, wish, m, row)), 0)
                self.assertIs(is_surely_least(standing, wish, m, row), len(row) == needed)
                self.assertIs(is_paper_below(standing, wish, m, paper_below(standing, wish, m)), True)
                self.assertIs(is_reads_paper(standing, wish, m, reads_needed(standing, wish, m)), True)
                self.assertGreater(read_measure(first_state(standing, m), wish), 0)
        self.assertEqual(run(standing, 2, ()), first_state(standing, 2))
        self.assertLess(time.time() - begun, 30)


if __name__ == "__main__":
    unittest.main()
