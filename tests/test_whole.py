"""Points 1 to 4, 79 and 80: what holds over the whole program."""

import copy
import os
import re
import unittest

from fewestpours.anywish import linked_lots, row_for
from fewestpours.askpapers import ask_bound, ask_paper, is_ask_paper
from fewestpours.asks import stretches
from fewestpours.asrows import program_of, row_of
from fewestpours.below import pours_needed
from fewestpours.belowpapers import is_paper_below, paper_below
from fewestpours.cuttings import cut_bound, cut_table, cut_weight, lightest_cut
from fewestpours.dearpages import is_price_paper, kept_worth, price_bound, price_paper
from fewestpours.digitlayings import laid_by
from fewestpours.digitrows import digit_row, least_turning
from fewestpours.diskcode import reads_in
from fewestpours.enough import most_pours
from fewestpours.errors import PourError
from fewestpours.furthest import fewest_misses, furthest, hits_by_rooms
from fewestpours.houses import House
from fewestpours.layers import is_layers, layers
from fewestpours.layingvisits import visit_sum, visits
from fewestpours.leastpours import least_pours, least_row, pours_between
from fewestpours.mergecounts import reads_below
from fewestpours.mergepapers import is_told_plan
from fewestpours.merging import least_cost, least_plan
from fewestpours.partingtrees import is_parting_tree, least_worst, parting_tree
from fewestpours.pours import meets
from fewestpours.readbounds import reads_needed
from fewestpours.searchtrees import least_visits, level_tree
from fewestpours.searchweights import lightest_tree, search_bound, search_table, search_weight
from fewestpours.sheets import sheet, sheet_holds
from fewestpours.sorting import sort_reads, sort_reads_below
from fewestpours.spread import spread
from fewestpours.standings import crowds, standing_of, wish_of
from fewestpours.turned import table_standing, turned_order, turned_wish
from helpers import all_in_tuples, distances, drawn_row, drawn_standing, drawn_wish, plain_wish, plainly_poured, rng_of

HERE = os.path.dirname(os.path.abspath(__file__))


def drawn_program(rng, standing, m, many):
    """Some program with m rooms that makes so many reads and ends idle."""
    blocks = len(standing[1])
    held, program, reads = {}, [], 0
    while reads < many or held:
        free = [block for block in range(blocks) if block not in held.values()]
        kind = rng.random()
        if reads < many and free and len(held) < m and kind < 0.5:
            room = rng.choice([room for room in range(m) if room not in held])
            held[room] = rng.choice(free)
            program.append(("read", held[room], room))
            reads += 1
        elif held and (kind < 0.7 or reads == many):
            room = rng.choice(sorted(held))
            # Any block that is taken may be written; here the rooms change their blocks now and then.
            other = rng.choice(sorted(held))
            held[room], held[other] = held[other], held[room]
            program.append(("write", room, held.pop(room)))
        elif held:
            places = [rng.choice(sorted(held)), rng.randrange(standing[0]), rng.choice(sorted(held)), rng.randrange(standing[0])]
            program.append(("swap", *places))
    return tuple(program)


class BothSidesTest(unittest.TestCase):
    def test_whatever_a_program_does(self):
        rng = rng_of(79)
        for _ in range(120):
            standing = drawn_standing(rng, b=rng.randint(1, 4), many=rng.randint(2, 5))
            m = rng.randint(2, 4)
            program = drawn_program(rng, standing, m, rng.randint(0, 9))
            row = row_of(standing, m, program)
            last = standing
            for pour in row:
                last = plainly_poured(last, pour)
            wish = plain_wish(last)
            self.assertIs(meets(standing, wish, m, row), True)
            self.assertTrue(pours_needed(standing, wish, m) <= len(row) <= reads_in(program))
            self.assertLessEqual(reads_needed(standing, wish, m), reads_in(program))

    def test_some_row_is_short_enough(self):
        rng = rng_of(80)
        for _ in range(120):
            standing = drawn_standing(rng, b=rng.randint(1, 4), many=rng.randint(1, 12))
            wish, m = drawn_wish(rng, standing), rng.randint(2, 5)
            row = row_for(standing, wish, m)
            self.assertIs(meets(standing, wish, m, row), True)
            self.assertLessEqual(len(row), sum(most_pours(len(lot), m) for lot in linked_lots(standing, wish)))
            self.assertTrue(pours_needed(standing, wish, m) <= len(row))
            program = program_of(standing, m, row)
            self.assertLessEqual(reads_needed(standing, wish, m), reads_in(program))
            self.assertLessEqual(pours_needed(standing, wish, m), reads_in(program))

    def test_turned_tables_meet_exactly(self):
        count = 0
        for m in (2, 3, 4):
            for i in range(6):
                for j in range(6):
                    for k in range(max(i, j), i + j):
                        if m ** (i + j) > 1024 or m ** k > 64 or m ** (i + j - k) > 64:
                            continue
                        order = turned_order(i, j)
                        standing, last = laid_by(m, k, tuple(range(i + j))), laid_by(m, k, order)
                        least, row = least_turning(m, i, j, k), digit_row(m, k, order)
                        wish = wish_of(standing, last)
                        self.assertEqual(standing, table_standing(m ** k, m ** i, m ** j))
                        self.assertEqual(wish, turned_wish(m ** k, m ** i, m ** j))
                        self.assertIs(meets(standing, wish, m, row), True)
                        self.assertEqual((len(row), pours_needed(standing, wish, m)), (least, least), (m, i, j, k))
                        count += 1
        self.assertGreater(count, 20)


class AllOfItTest(unittest.TestCase):
    def test_least_rows(self):
        rng = rng_of(81)
        for _ in range(25):
            standing = drawn_standing(rng, b=rng.randint(1, 2), many=3)
            wish, m = drawn_wish(rng, standing), 2
            least = least_pours(standing, wish, m, 10 ** 5)
            met = tuple(tuple(record for record, goal in enumerate(wish) if goal == at) for at in range(3))
            self.assertEqual(least, distances(standing, m)[standing[0], met])
            self.assertTrue(pours_needed(standing, wish, m) <= least <= len(row_for(standing, wish, m)))
            self.assertEqual(len(least_row(standing, wish, m, 10 ** 5)), least)
            self.assertEqual(pours_between(standing, (standing[0], met), m, 10 ** 5), least)
            self.assertLess(least, len(spread(standing, m, 10 ** 5)))
            told = layers(standing, wish, m, 10 ** 5)
            self.assertEqual((len(told), is_layers(standing, wish, m, told)), (least, True))
            self.assertIs(is_paper_below(standing, wish, m, paper_below(standing, wish, m)), True)

    def test_asks(self):
        rng = rng_of(82)
        for _ in range(40):
            asks = tuple(rng.randrange(rng.randint(1, 6)) for _ in range(rng.randint(0, 25)))
            costs = tuple(rng.randint(0, 9) for _ in range(6))
            for m in (1, 2, 3, 16):
                kept, times = ask_paper(asks, m)
                self.assertEqual(ask_bound(asks, m, times), len(kept))
                self.assertEqual((len(kept), len(asks) - len(kept)), (len(furthest(asks, m)), fewest_misses(asks, m)))
                self.assertEqual(hits_by_rooms(asks, m)[-1], len(kept))
                self.assertIs(is_ask_paper(asks, m, (kept, times)), True)
                dear, prices = price_paper(asks, costs, m)
                self.assertEqual(price_bound(asks, costs, m, prices), kept_worth(asks, costs, dear))
                self.assertGreaterEqual(kept_worth(asks, costs, dear), kept_worth(asks, costs, kept))
                self.assertIs(is_price_paper(asks, costs, m, (dear, prices)), True)
                some = tuple(sorted(rng.sample(range(len(asks)), rng.randint(0, len(asks)))))
                self.assertLessEqual(len(kept), ask_bound(asks, m, some))
                self.assertLessEqual(len(kept), len(stretches(asks)))

    def test_merging_and_sorting(self):
        rng = rng_of(83)
        for _ in range(60):
            runs = tuple(rng.randint(1, 9) for _ in range(rng.randint(1, 12)))
            for m in (3, 4, 16):
                for b in (1, 3, 64):
                    self.assertLessEqual(reads_below(runs, b, m), least_cost(runs, m - 1))
                self.assertIs(is_told_plan(runs, m - 1, least_plan(runs, m - 1)), True)
        for n in (1, 2, 7, 60):
            for b, m in ((1, 3), (5, 4), (64, 16)):
                self.assertLessEqual(sort_reads_below(n, b, m), sort_reads(n, m))

    def test_searching(self):
        rng = rng_of(84)
        for _ in range(40):
            n, b = rng.randint(0, 12), rng.randint(1, 4)
            keys, gaps = tuple(rng.randint(0, 9) for _ in range(n)), tuple(rng.randint(0, 9) for _ in range(n + 1))
            lightest = lightest_tree(b, keys, gaps)
            self.assertEqual(search_bound(b, keys, gaps, search_table(b, keys, gaps)), search_weight(lightest, keys, gaps))
            self.assertGreaterEqual(search_weight(level_tree(n, b), keys, gaps), search_weight(lightest, keys, gaps))
            self.assertEqual(search_weight(level_tree(n, b), (0,) * n, (1,) * (n + 1)), least_visits(n, b)[0])
            parents = (None,) + tuple(rng.randrange(node) for node in range(1, rng.randint(1, 12)))
            weights = tuple(rng.randint(0, 9) for _ in parents)
            told = cut_weight(parents, weights, lightest_cut(b, parents, weights))
            self.assertEqual(cut_bound(b, parents, weights, cut_table(b, parents, weights)), told)
            h = rng.randint(1, 5)
            laying = tuple(rng.sample(range(2 ** h - 1), 2 ** h - 1))
            shift = rng.randrange(b)
            self.assertGreaterEqual(max(visits(h, laying, b, shift)), least_worst(h, b))
            self.assertGreaterEqual(visit_sum(h, laying, b), sum(visits(h, laying, b, shift)))
            self.assertIs(is_parting_tree(h, laying, b, shift, parting_tree(h, laying, b, shift)), True)


class BasicsTest(unittest.TestCase):
    def test_asked_again(self):
        rng = rng_of(85)
        for _ in range(20):
            standing = drawn_standing(rng, b=2, many=3)
            wish = drawn_wish(rng, standing)
            again = copy.deepcopy((standing, wish))
            for tell in (row_for, paper_below, pours_needed, reads_needed):
                self.assertEqual(tell(standing, wish, 2), tell(*again, 2))
            self.assertEqual(layers(standing, wish, 2, 10 ** 4), layers(*again, 2, 10 ** 4))
            self.assertEqual((standing, wish), again)

    def test_lists_are_not_kept(self):
        blocks = [[1, 0], [2], []]
        standing = standing_of(2, blocks)
        blocks[0].append(3)
        blocks.clear()
        self.assertEqual(standing, (2, ((0, 1), (2,), ())))
        self.assertTrue(all_in_tuples(standing))

    def test_true_and_false_are_no_numbers(self):
        house = House("rooms 2; size 1; block 0: 0; block 1: 1; wish: 1 0; pour 0 1: 1, 0; done")
        for value in (True, False):
            with self.assertRaises(PourError):
                house.pour_on(value)
            with self.assertRaises(PourError):
                house.do(("go", value))
            with self.assertRaises(PourError):
                standing_of(value, [[0]])
            self.assertIs(sheet_holds(("network", (1,), ((value, 1),))), False)
            with self.assertRaises(PourError):
                sheet("network", (value,))
        self.assertEqual(len(house), 0)

    def test_every_promise_has_a_test(self):
        found = set()
        for name in os.listdir(HERE):
            if name.startswith("test_") and name.endswith(".py"):
                with open(os.path.join(HERE, name), encoding="utf-8") as told:
                    points = told.readline().split(":")[0]
                found |= set(map(int, re.findall(r"\d+", points)))
                for first, last in re.findall(r"(\d+) to (\d+)", points):
                    found |= set(range(int(first), int(last) + 1))
        self.assertEqual([number for number in range(1, 81) if number not in found], [])

    def test_great_numbers(self):
        # Facts speak of standings of any size.
        standing = (64, tuple(tuple(range(at, at + 16)) for at in range(0, 1024, 16)))
        wish = tuple(record % 64 for record in range(1024))
        self.assertEqual(sum(map(sum, crowds(standing, wish))), 1024)
        self.assertTrue(0 < pours_needed(standing, wish, 16) <= len(row_for(standing, wish, 16)))

    def test_rows_from_a_standing_to_itself(self):
        rng = rng_of(86)
        for _ in range(20):
            standing = drawn_standing(rng)
            wish = plain_wish(standing)
            self.assertEqual((row_for(standing, wish, 2), pours_needed(standing, wish, 2)), ((), 0))
            row, last = drawn_row(rng, standing, 2, 2)
            self.assertIs(meets(standing, plain_wish(last), 2, row), True)


if __name__ == "__main__":
    unittest.main()
