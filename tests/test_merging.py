"""Points 43 to 46: plans of merging, the least, papers, from below for all programs."""

import functools
import itertools
import math
import time
import unittest

from fewestpours.mergecounts import answers_of_read, orders_of_runs, reads_below
from fewestpours.mergepapers import is_told_plan
from fewestpours.merging import depths, is_plan, least_cost, least_plan, plan_cost
from helpers import WRONG_VALUES, all_in_tuples, broken, nested, rng_of


def all_plans(many, fan, there=None):
    """All plans for so many runs."""
    there = tuple(range(many)) if there is None else there
    if len(there) == 1:
        yield ()
    for size in range(2, min(fan, len(there)) + 1):
        for merge in itertools.combinations(there, size):
            rest = tuple(number for number in there if number not in merge)
            # The number of the next run is how many numbers have been given so far.
            following = (many if max(there) < many else max(there) + 1,)
            for plan in all_plans(many, fan, rest + following):
                yield (merge,) + plan


def plain_cost(runs, plan):
    """What a plan costs."""
    lengths = list(runs)
    for merge in plan:
        lengths.append(sum(lengths[number] for number in merge))
    return sum(lengths[len(runs):])


@functools.lru_cache(maxsize=None)
def cheapest(lengths, fan):
    """The least cost of all plans for runs of these lengths, in order."""
    if len(lengths) == 1:
        return 0
    costs = []
    for size in range(2, min(fan, len(lengths)) + 1):
        for places in itertools.combinations(range(len(lengths)), size):
            made = sum(lengths[at] for at in places)
            left = [length for at, length in enumerate(lengths) if at not in places]
            costs.append(made + cheapest(tuple(sorted([*left, made])), fan))
    return min(costs)


def is_told(runs, fan, plan):
    """Whether a plan is a told one."""
    lengths, there = list(runs), set(range(len(runs)))
    for at, merge in enumerate(plan):
        wanted = fan
        if at == 0:
            wanted = [k for k in range(2, fan + 1) if (len(runs) - k) % (fan - 1) == 0][0]
        others = there - set(merge)
        if len(merge) != wanted or any(lengths[one] < lengths[other] for one in others for other in merge):
            return False
        lengths.append(sum(lengths[number] for number in merge))
        there = others | {len(lengths) - 1}
    return True


def drawn_runs(rng, many, most):
    """Some runs."""
    return tuple(rng.randint(1, most) for _ in range(many))


class PlansTest(unittest.TestCase):
    def test_examples(self):
        self.assertIs(is_plan((3, 1, 2), 2, ((1, 2), (0, 3))), True)
        self.assertEqual(plan_cost((3, 1, 2), ((1, 2), (0, 3))), 9)
        self.assertEqual(depths((3, 1, 2), ((1, 2), (0, 3))), (1, 2, 2))

    def test_one_run_and_two(self):
        for fan in (2, 3, 15):
            self.assertIs(is_plan((4,), fan, ()), True)
            self.assertIs(is_plan((4,), fan, ((0, 0),)), False)
            self.assertIs(is_plan((4, 5), fan, ()), False)
            self.assertIs(is_plan((4, 5), fan, ((0, 1),)), True)
            self.assertEqual((plan_cost((4,), ()), depths((4,), ())), (0, (0,)))
            self.assertEqual((plan_cost((4, 5), ((0, 1),)), depths((4, 5), ((0, 1),))), (9, (1, 1)))

    def test_which_are_plans(self):
        for many, fan in ((2, 2), (3, 2), (3, 3), (4, 2), (4, 3)):
            told = set(all_plans(many, fan))
            merges = [merge for size in range(4) for merge in itertools.combinations(range(many + 3), size)]
            count = 0
            for size in range(4 if many < 4 else 3):
                for value in itertools.product(merges, repeat=size):
                    self.assertIs(is_plan((1,) * many, fan, value), value in told, value)
                    count += value in told
            self.assertEqual(count, sum(1 for plan in told if len(plan) < (4 if many < 4 else 3)))

    def test_any_value(self):
        for runs, fan, plan in (((3, 1, 2), 2, ((1, 2), (0, 3))), ((1, 1, 1, 1, 5), 3, ((0, 1, 2), (3, 4, 5))), ((1, 1), 2, ((0, 1),)),
                                ((1,) * 5, 4, ((0, 1), (2, 3, 4, 5)))):
            self.assertIs(is_plan(runs, fan, plan), True)
            self.assertIs(is_told_plan(runs, fan, plan), True)
            wrong = [plan[:-1], plan + plan[-1:], plan[::-1] + ((),), plan + ((),), plan + ((0, 1),), plan + ((0, 99),), (plan,),
                     plan[:-1] + (plan[-1][::-1],), plan[:-1] + (plan[-1] + plan[-1][-1:],), ((0, 0),) + plan[1:], ((-1, 0),) + plan[1:],
                     plan[:-1] + (plan[-1] + (99,),), (tuple(range(len(runs) + 1)),), ((False, True),) + plan[1:], ((0,),) + plan]
            for value in itertools.chain(broken(plan), WRONG_VALUES, wrong, (nested(40),)):
                self.assertIs(is_plan(runs, fan, value), False, value)
                self.assertIs(is_told_plan(runs, fan, value), False, value)
        self.assertIs(is_plan((1,), 2, []), False)
        self.assertIs(is_plan((1, 1), 2, ((0, True),)), False)
        self.assertIs(is_plan((1, 1, 1), 2, ((0, 1), (0, 2))), False)
        self.assertIs(is_plan((1, 1, 1), 2, ((0, 1, 2),)), False)
        self.assertIs(is_plan((1, 1, 1), 3, ((0, 1, 2),)), True)

    def test_costs_and_depths(self):
        rng = rng_of(1)
        for many, fan in ((1, 2), (2, 2), (3, 2), (4, 2), (4, 3), (5, 3), (5, 5)):
            for plan in all_plans(many, fan):
                runs = drawn_runs(rng, many, 9)
                told = depths(runs, plan)
                self.assertEqual(plan_cost(runs, plan), plain_cost(runs, plan))
                self.assertEqual(sum(length * depth for length, depth in zip(runs, told)), plain_cost(runs, plan))
                self.assertTrue(all_in_tuples(told))
                holds = [{at} for at in range(many)]
                for merge in plan:
                    holds.append(set().union(*[holds[number] for number in merge]))
                self.assertEqual(told, tuple(sum(1 for lot in holds[many:] if at in lot) for at in range(many)))
                top = max(told)
                self.assertLessEqual(sum(fan ** (top - depth) for depth in told), fan ** top)


class LeastTest(unittest.TestCase):
    def check(self, runs, fan):
        """Ask for the least plan, and look at it."""
        plan = least_plan(runs, fan)
        self.assertTrue(all_in_tuples(plan))
        self.assertIs(is_plan(runs, fan, plan), True)
        self.assertTrue(is_told(runs, fan, plan))
        self.assertIs(is_told_plan(runs, fan, plan), True)
        self.assertEqual(least_cost(runs, fan), plain_cost(runs, plan))
        return plain_cost(runs, plan)

    def test_examples(self):
        self.assertEqual(self.check((1, 1, 1, 1, 5), 3), 12)
        self.assertEqual(least_plan((7,), 2), ())
        self.assertEqual(least_plan((7, 3), 2), ((0, 1),))
        self.assertEqual(least_plan((7, 3), 15), ((0, 1),))
        self.assertEqual(least_plan((1, 1, 1, 1), 3)[0], (0, 1))
        self.assertEqual(least_plan((3, 1, 2), 2), ((1, 2), (0, 3)))
        self.assertEqual(self.check((5,) * 15, 15), 75)
        self.assertEqual(self.check((5,) * 16, 15), 10 + 80)

    def test_against_all_plans(self):
        rng = rng_of(2)
        for many in range(1, 8):
            for fan in range(2, 9):
                for most in (1, 3, 40):
                    runs = drawn_runs(rng, many, most)
                    self.assertEqual(self.check(runs, fan), cheapest(tuple(sorted(runs)), fan))

    def test_each_told_plan_has_the_least_cost(self):
        rng = rng_of(3)
        kinds = [0, 0, 0]
        for many, fan in ((1, 2), (2, 2), (3, 2), (4, 2), (4, 3), (5, 2), (5, 3), (5, 4), (6, 3)):
            for runs in (drawn_runs(rng, many, 3), drawn_runs(rng, many, 9), (2,) * many):
                least = cheapest(tuple(sorted(runs)), fan)
                for plan in all_plans(many, fan):
                    told = is_told(runs, fan, plan)
                    self.assertIs(is_plan(runs, fan, plan), True)
                    self.assertIs(is_told_plan(runs, fan, plan), told)
                    cost = plain_cost(runs, plan)
                    self.assertGreaterEqual(cost, least)
                    self.assertTrue(cost == least or not told)
                    kinds[0 if told else 1 if cost == least else 2] += 1
        self.assertGreater(min(kinds), 30)

    def test_not_told_though_least(self):
        self.assertIs(is_told_plan((1, 1, 1, 1, 5), 3, ((0, 1, 2), (3, 4, 5))), True)
        self.assertIs(is_told_plan((1, 1, 1, 1, 5), 3, ((0, 4), (1, 2, 3), (5, 6))), False)
        self.assertIs(is_plan((1, 1, 1, 1, 5), 3, ((0, 4), (1, 2, 3), (5, 6))), True)
        self.assertIs(is_told_plan((1, 1, 2, 2), 2, ((0, 1), (2, 3), (4, 5))), True)
        self.assertIs(is_told_plan((1, 1, 2, 2), 2, ((2, 3), (0, 1), (4, 5))), False)

    def test_facts(self):
        rng = rng_of(4)
        for _ in range(200):
            runs, fan = drawn_runs(rng, rng.randint(1, 20), rng.choice((1, 5, 100))), rng.randint(2, 15)
            cost = self.check(runs, fan)
            self.assertEqual(least_cost(tuple(7 * length for length in runs), fan), 7 * cost)
            self.assertGreaterEqual(least_cost(runs + (rng.randint(1, 50),), fan), cost)
            told = depths(runs, least_plan(runs, fan))
            for one, other in itertools.combinations(range(len(runs)), 2):
                if runs[one] > runs[other]:
                    self.assertLessEqual(told[one], told[other])

    def test_sixty_runs(self):
        rng = rng_of(5)
        begin = time.time()
        for fan in (2, 3, 4, 14, 15):
            for most in (1, 10, 10 ** 3990):
                self.check(drawn_runs(rng, 60, most), fan)
        self.assertLess(time.time() - begin, 10)


class CountsTest(unittest.TestCase):
    def test_orders_of_runs(self):
        self.assertEqual(orders_of_runs((1, 1), 2), 6)
        self.assertEqual(orders_of_runs((9,), 64), 1)
        self.assertEqual(orders_of_runs((1,) * 6, 1), 720)
        rng = rng_of(6)
        for _ in range(100):
            runs, b = drawn_runs(rng, rng.randint(1, 8), 9), rng.randint(1, 9)
            told = math.factorial(sum(runs) * b)
            for length in runs:
                told //= math.factorial(length * b)
            self.assertEqual(orders_of_runs(runs, b), told)
        orders = {tuple(order) for order in itertools.permutations((0, 0, 1, 1, 1, 2))}
        self.assertEqual(orders_of_runs((2, 3, 1), 1), len(orders))

    def test_answers_of_read(self):
        self.assertEqual(answers_of_read(2, 2), 6)
        for m in range(2, 17):
            self.assertEqual(answers_of_read(m, 1), m)
            for b in (1, 2, 7, 64):
                others = (m - 1) * b
                self.assertEqual(answers_of_read(m, b), math.factorial(others + b) // math.factorial(b) // math.factorial(others))

    def check(self, runs, b, m):
        """Look at the least number of reads."""
        told = reads_below(runs, b, m)
        orders, answers = orders_of_runs(runs, b), answers_of_read(m, b)
        self.assertGreaterEqual(answers ** told, orders)
        self.assertTrue(told == 0 or answers ** (told - 1) < orders)
        if m > 2:
            self.assertGreaterEqual(least_cost(runs, m - 1), told)
        return told

    def test_reads_below(self):
        self.assertEqual((reads_below((1, 1), 2, 2), reads_below((2, 2), 2, 3)), (1, 2))
        self.assertEqual([self.check((1,) * 9, 1, m) for m in (2, 3, 4)], [19, 12, 10])
        rng = rng_of(7)
        for _ in range(500):
            runs = drawn_runs(rng, rng.randint(1, 12), rng.choice((1, 3, 20)))
            self.check(runs, rng.choice((1, 2, 5, 64)), rng.choice((2, 2, 3, 4, 16)))
        for b in (1, 64):
            for m in (2, 3, 16):
                self.assertEqual(self.check((5,), b, m), 0)
        self.assertEqual(self.check((1, 1), 64, 2), 1)

    def test_where_a_power_is_just_enough(self):
        self.assertEqual(self.check((1, 1), 1, 2), 1)
        self.assertEqual(self.check((1, 3), 1, 2), 2)
        self.assertEqual(self.check((1, 7), 1, 2), 3)
        self.assertEqual(self.check((1, 15), 1, 2), 4)
        self.assertEqual(self.check((1, 15), 1, 4), 2)
        self.assertEqual(self.check((1, 8), 1, 3), 2)
        self.assertEqual(self.check((1, 9), 1, 3), 3)

    def test_thousand_blocks(self):
        begin = time.time()
        for runs in ((1000,), (500, 500), (17,) * 58, (1,) * 59 + (941,), (16,) * 59 + (56,), (1, 999)):
            for b, m in ((64, 2), (64, 3), (1, 16), (64, 16)):
                self.check(runs, b, m)
        self.assertLess(time.time() - begin, 60)


if __name__ == "__main__":
    unittest.main()
