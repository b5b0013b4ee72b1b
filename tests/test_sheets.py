"""Points 76 and 77: sheets, and when two of them show that a row is a least one."""

import itertools
import time
import unittest

from fewestpours.anywish import row_for
from fewestpours.askpapers import ask_paper, is_ask_paper
from fewestpours.belowpapers import is_paper_below, paper_below
from fewestpours.blocknetworks import least_network
from fewestpours.errors import InvalidQuestion, Refused
from fewestpours.layers import is_layers, layers
from fewestpours.mergepapers import is_told_plan
from fewestpours.merging import least_plan
from fewestpours.networks import is_sorting
from fewestpours.pours import meets
from fewestpours.sheets import sheet, sheet_holds, sure, wrong_sheets
from fewestpours.turned import table_standing, turned_wish
from helpers import WRONG_VALUES, all_in_tuples, broken, distances, drawn_row, drawn_standing, drawn_wish, nested, plain_wish, rng_of

STANDING, WISH = (2, ((0, 1), (2, 3))), (0, 1, 0, 1)
QUESTIONS = {
    "row": (STANDING, WISH, 2),
    "below": (STANDING, WISH, 2),
    "layers": (STANDING, WISH, 2, 1000),
    "merge": ((3, 1, 2), 2),
    "asks": ((0, 1, 2, 0, 1, 3, 0, 1), 2),
    "network": (3,),
}
MAKERS = {
    "row": (row_for, lambda question, value: meets(*question, value)),
    "below": (paper_below, lambda question, value: is_paper_below(*question, value)),
    "layers": (layers, lambda question, value: is_layers(*question[:3], value)),
    "merge": (least_plan, lambda question, value: is_told_plan(*question, value)),
    "asks": (ask_paper, lambda question, value: is_ask_paper(*question, value)),
    "network": (least_network, lambda question, value: is_sorting(*question, value)),
}


def drawn_questions(rng):
    """Some question for each kind."""
    standing = drawn_standing(rng)
    wish, m = drawn_wish(rng, standing), rng.randint(2, 16)
    small = drawn_standing(rng, b=2, many=rng.randint(1, 3))
    return {
        "row": (standing, wish, m),
        "below": (standing, wish, m),
        "layers": (small, drawn_wish(rng, small), rng.randint(2, 4), 10000),
        "merge": (tuple(rng.randint(1, 9) for _ in range(rng.randint(1, 9))), rng.randint(2, 15)),
        "asks": (tuple(rng.randint(0, 5) for _ in range(rng.randint(0, 20))), rng.randint(1, 16)),
        "network": (rng.randint(1, 5),),
    }


# For each kind of sheet things that are no questions for it.
NO_QUESTIONS = {
    "row": [(STANDING, WISH), (STANDING, WISH, 2, 5), (STANDING, WISH, 1), (STANDING, WISH, 17), (STANDING, (0, 1, 0, 0), 2), (STANDING, (0, 1, 0), 2),
            ((2, ((0, 1), (2, 4))), WISH, 2), (WISH, STANDING, 2), (STANDING, WISH, True), ((0, ()), (), 2), [STANDING, WISH, 2],
            ((65, ((0,),)), (0,), 2), ((1, ((),) * 65), (), 2)],
    "layers": [(STANDING, WISH, 2), (STANDING, WISH, 2, -1), (STANDING, WISH, 2, True), (STANDING, WISH, 2, None), (STANDING, WISH, 2, 1000, 0),
               (STANDING, WISH, 1, 5), ((1, ((),) * 9), (), 2, 5), ((9, (tuple(range(9)), ())), (0,) * 9, 2, 5), (STANDING, (0, 1, 2, 1), 2, 5)],
    "merge": [((3, 1, 2),), ((3, 1, 2), 1), ((3, 1, 2), 16), ((), 2), ((3, 0, 2), 2), ((1,) * 61, 2), ((3, True, 2), 2), ((3, -1), 2), ([3, 1], 2),
              ((3, 1, 2), True), ((3, 1, 2), 2, 2), (3, 2)],
    "asks": [((0, 1),), ((0, 1), 0), ((0, 1), 17), ((0,) * 401, 2), ((0, True), 2), ((0, -1), 2), ([0, 1], 2), ((0, 1), False), ((0, 1), 2, 2)],
    "network": [(), (0,), (6,), (12,), (13,), (True,), (-1,), 3, [3], (3, 3), ("3",)],
}
NO_QUESTIONS["below"] = NO_QUESTIONS["row"]


class SheetsTest(unittest.TestCase):
    def test_made_and_looked_at(self):
        rng = rng_of(76)
        for questions in [QUESTIONS] + [drawn_questions(rng) for _ in range(40)]:
            for name, question in questions.items():
                make, look = MAKERS[name]
                told = sheet(name, question)
                self.assertEqual(told, (name, question, make(*question)))
                self.assertIs(sheet_holds(told), True)
                self.assertIs(look(question, told[2]), True)
                self.assertTrue(all_in_tuples(told))
                self.assertEqual(sheet(name=name, question=question), told)
                for value in itertools.islice(broken(told[2]), 30):
                    self.assertIs(sheet_holds((name, question, value)), look(question, value))
                for other in questions:
                    # Another kind holds only if it is its question, and its value.
                    self.assertIs(sheet_holds((other, question, told[2])), questions[other] == question and MAKERS[other][1](question, told[2]))

    def test_edges(self):
        for name, question in (("network", (1,)), ("network", (5,)), ("merge", ((1,), 15)), ("merge", ((1,) * 60, 2)), ("asks", ((), 1)),
                               ("asks", ((0,) * 400, 16)), ("row", ((1, ((),)), (), 16)), ("below", ((1, ((),) * 64), (), 2)),
                               ("layers", ((1, ((),) * 8), (), 16, 0)), ("layers", ((8, (tuple(range(8)), ())), (0,) * 8, 2, 0)),
                               ("asks", ((10 ** 3999, 0, 10 ** 3999), 2)), ("merge", ((10 ** 3999, 1), 2))):
            self.assertIs(sheet_holds(sheet(name, question)), True)

    def test_any_value(self):
        for name, question in QUESTIONS.items():
            good = sheet(name, question)
            wrong = [good[:2], good + (0,), list(good), (good,), (question, name, good[2]), (name, list(question), good[2]), (name, question),
                     (name + " ", question, good[2]), (name.upper(), question, good[2]), (name.encode(), question, good[2])]
            wrong += [(name, other, good[2]) for other in NO_QUESTIONS[name]]
            for value in itertools.chain(WRONG_VALUES, (nested(40),), wrong):
                self.assertIs(sheet_holds(value), False, value)
            for value in WRONG_VALUES:
                self.assertIs(sheet_holds((value, question, good[2])), False)
                self.assertIs(sheet_holds((name, value, good[2])), False)
                self.assertIs(sheet_holds((name, question, value)), MAKERS[name][1](question, value))
            for value in broken(question):
                told = sheet_holds((name, value, good[2]))
                if told:
                    # What breaks a question may make another one of it, with the same answer.
                    self.assertIs(MAKERS[name][1](value, good[2]), True)
                    self.assertTrue(all_in_tuples(value) and True not in value)

    def test_refused(self):
        for value in WRONG_VALUES + ("rows", "Row", "row ", ("row",), b"row", None):
            for question in (QUESTIONS["row"], None, 5):
                with self.assertRaises(Refused) as caught:
                    sheet(value, question)
                self.assertEqual(caught.exception.at, 0)
        for name in QUESTIONS:
            # Runs and a fan may be asks and m, too.
            others = [question for other, question in QUESTIONS.items() if question != QUESTIONS[name] and (name, other) != ("asks", "merge")]
            for question in itertools.chain(NO_QUESTIONS[name], WRONG_VALUES, others):
                with self.assertRaises(Refused) as caught:
                    sheet(name, question)
                self.assertEqual(caught.exception.at, 1, (name, question))
        # Errors of what makes it.
        standing = (1, ((0,), (1,), (2,)))
        for most in (0, 1, 2, 3):
            with self.assertRaises(Refused) as caught:
                sheet("layers", (standing, (1, 2, 0), 2, most))
            self.assertEqual(caught.exception.at, most)

    def test_wrong_sheets(self):
        good = [sheet(name, question) for name, question in QUESTIONS.items()]
        self.assertEqual((wrong_sheets(good), wrong_sheets(()), wrong_sheets([])), ((), (), ()))
        values = [None, *good, good, good[0][:2], {}, good[1], [good[1]]]
        kept = list(values)
        self.assertEqual(wrong_sheets(values), (0, 7, 8, 9, 11))
        self.assertEqual(wrong_sheets(tuple(values)), (0, 7, 8, 9, 11))
        self.assertEqual(values, kept)
        self.assertEqual(wrong_sheets(good[0]), (0, 1, 2))
        for value in WRONG_VALUES:
            if not isinstance(value, (list, tuple)):
                with self.assertRaises(InvalidQuestion) as caught:
                    wrong_sheets(value)
                self.assertEqual(caught.exception.at, 0)
            else:
                self.assertEqual(wrong_sheets(value), tuple(range(len(value))))


class SureTest(unittest.TestCase):
    def test_sure(self):
        below, row = sheet("below", QUESTIONS["below"]), sheet("row", QUESTIONS["row"])
        self.assertIs(sure(below, row), True)
        self.assertIs(sure(below=below, row=row), True)
        self.assertIs(sure(row, below), False)
        self.assertIs(sure(row, row) or sure(below, below), False)
        # A paper that tells less, a row that is longer, another question.
        self.assertIs(sure(("below", below[1], ("depths", 0)), row), False)
        self.assertIs(sure(below, ("row", row[1], row[2] * 2)), False)
        self.assertIs(sure(below, ("row", row[1][:2] + (3,), row[2])), False)
        self.assertIs(sure(("below", below[1][:2] + (3,), below[2]), row), False)
        self.assertIs(sure(("below", below[1], ("depths", 2)), ("row", row[1], row[2] * 2)), False)
        # A paper has two entries; so it may look as if it were a row of two pours.
        longer = (table_standing(2, 2, 4), turned_wish(2, 2, 4), 2)
        paper = sheet("below", longer)
        self.assertEqual(paper[2][1], 2)
        self.assertIs(sure(paper, paper), False)
        for value in itertools.chain(WRONG_VALUES, broken(row), (below, nested(40))):
            self.assertIs(sure(below, value), False)
        for value in itertools.chain(WRONG_VALUES, broken(below), (row, nested(40))):
            if value != ("below", below[1], ("depths", 1)):
                self.assertIs(sure(value, row), False)

    def test_then_it_is_a_least_one(self):
        rng = rng_of(77)
        count = 0
        for _ in range(60):
            standing = drawn_standing(rng, b=rng.randint(1, 2), many=3)
            row, last = drawn_row(rng, standing, 2, rng.randint(0, 2))
            question = (standing, plain_wish(last), 2)
            below = sheet("below", question)
            for told in (row, row_for(*question)):
                is_sure = sure(below, ("row", question, told))
                self.assertIs(is_sure, below[2][1] == len(told))
                if is_sure:
                    count += 1
                    self.assertEqual(distances(standing, 2)[last], len(told))
        self.assertGreater(count, 10)

    def test_within_seconds(self):
        rng = rng_of(78)
        standing = drawn_standing(rng, b=16, many=64, records=1024)
        start = time.monotonic()
        for m in (2, 16):
            question = (standing, drawn_wish(rng, standing), m)
            below, row = sheet("below", question), sheet("row", question)
            self.assertEqual(wrong_sheets([below, row, ("row", question, row[2][1:])]), (2,))
            self.assertIs(sure(below, row), below[2][1] == len(row[2]))
        self.assertIs(sheet_holds(sheet("asks", (tuple(rng.randrange(60) for _ in range(400)), 16))), True)
        self.assertLess(time.monotonic() - start, 60)


if __name__ == "__main__":
    unittest.main()
