"""Points 72 to 75: houses, deeds, undoing, and what holds for all houses."""

import itertools
import time
import unittest

from fewestpours.anywish import row_for
from fewestpours.below import pours_needed
from fewestpours.diskcode import is_program, reads_in
from fewestpours.diskmachine import is_idle, run
from fewestpours.errands import is_errand
from fewestpours.errandtexts import errand_text
from fewestpours.errors import InvalidQuestion, InvalidText
from fewestpours.houses import House
from fewestpours.lives import joined
from fewestpours.living import gap, is_life
from fewestpours.livingchanges import changed, is_change
from fewestpours.pours import behind, meets
from fewestpours.readbounds import reads_needed
from fewestpours.reading import read_errand
from helpers import (WRONG_VALUES, all_in_tuples, distances, drawn_errand, drawn_pour, drawn_row, drawn_standing, plain_wish,
                     plainly_poured, played, rng_of)

TEXT = "rooms 2; size 2; block 0: 0 1; block 1: 2 3; wish: 0 1 0 1; pour 0 1: 0 2, 1 3; done"
LONG = "rooms 2; size 2; block 0: 0 1; block 1: 2 3; wish: 0 1 0 1; pour 0 1: 2 3, 0 1; pour 0 1: 0 2, 1 3; done"


def told_by(house):
    """All that a house tells."""
    return house.life(), house.errand(), house.bounds(), house.reads(), house.program(), len(house)


def drawn_change(rng, life):
    """Some change, often one that can't be made."""
    standing, wish, m, plan = life
    many, records = len(standing[1]), len(wish)
    word = rng.choice(("come", "go", "wish", "swap", "pour", "pour"))
    if word == "pour" and many == 1:
        return word, ((0, 1), ((), ()))
    if word == "pour":
        return word, plan[0] if plan and rng.random() < 0.5 else drawn_pour(rng, standing, m)
    ends = {"come": (many, many), "go": (records,), "wish": (records, many), "swap": (records, records)}
    return (word, *(rng.randrange(end + 1) for end in ends[word]))


class HousesTest(unittest.TestCase):
    def test_example(self):
        house = House(TEXT)
        self.assertEqual((house.bounds(), house.reads(), house.pour_on(9)), ((1, 1), (1, 2), 1))
        self.assertEqual(house.life(), ((2, ((0, 2), (1, 3))), (0, 1, 0, 1), 2, ()))
        self.assertIs(house.undo(), True)
        self.assertEqual(len(house), 0)

    def test_what_it_tells(self):
        rng = rng_of(72)
        for _ in range(60):
            m, standing, wish, row = errand = drawn_errand(rng, many=4)
            house = House(text=errand_text(errand))
            self.assertEqual((house.life(), house.errand(), len(house)), ((standing, wish, m, row), errand, 0))
            self.assertIs(is_life(house.life()) and is_errand(house.errand()), True)
            self.assertEqual(house.bounds(), (pours_needed(standing, wish, m), len(row)))
            program = house.program()
            self.assertEqual(house.reads(), (reads_needed(standing, wish, m), reads_in(program)))
            self.assertIs(is_program(program), True)
            last = run(standing, m, program)
            self.assertIs(is_idle(last), True)
            self.assertEqual((last[0], last[1]), behind(standing, m, row))
            self.assertLessEqual(house.reads()[0], house.reads()[1])
            self.assertEqual(house.errand(), read_errand(errand_text(house.errand())))
            self.assertTrue(all_in_tuples(told_by(house)))
            self.assertFalse(house == House(errand_text(errand)) or house == house.life())

    def test_texts_of_any_value(self):
        for value in WRONG_VALUES + (TEXT.encode(), [TEXT], (TEXT,), TEXT[:-4], TEXT + ";", TEXT.replace("0 1 0 1", "0 1 0 0")):
            try:
                read_errand(value)
                self.fail(value)
            except InvalidText as error:
                at = error.at
            with self.assertRaises(InvalidText) as caught:
                House(value)
            self.assertEqual(caught.exception.at, at)
        for text, at in ((None, 0), (5, 0), ("", 0), ("rooms 1", 1), (TEXT + " done", 36), (TEXT[:-4], 35)):
            with self.assertRaises(InvalidText) as caught:
                House(text)
            self.assertEqual(caught.exception.at, at)


class DeedsTest(unittest.TestCase):
    def test_do(self):
        house = House(TEXT)
        ahead = house.life()
        self.assertIsNone(house.do(("swap", 0, 1)))
        self.assertEqual(house.life(), changed(ahead, ("swap", 0, 1)))
        self.assertEqual(len(house), 1)
        self.assertIsNone(house.do(change=("pour", house.life()[3][0])))
        self.assertEqual(len(house), 2)
        # A swap of a record with itself is a deed, too.
        now = house.life()
        house.do(("swap", 2, 2))
        self.assertEqual((house.life(), len(house)), (now, 3))

    def test_any_value(self):
        for house in (House(TEXT), House(LONG)):
            house.do(("go", 3))
            ahead = told_by(house)
            for value in WRONG_VALUES + (("go", 3), ("go", True), ["go", 0], ("come", 0, 0), ("wish", 0, 2), ("fly", 0), ("pour", ()), ("go",), "undo"):
                with self.assertRaises(InvalidQuestion) as caught:
                    house.do(value)
                self.assertEqual((caught.exception.at, told_by(house)), (1, ahead))
            for value in WRONG_VALUES + ((1,), [1], "1", 1.0):
                if type(value) is not int or value < 0:
                    with self.assertRaises(InvalidQuestion) as caught:
                        house.pour_on(value)
                    self.assertEqual((caught.exception.at, told_by(house)), (0, ahead))

    def test_shorten(self):
        house = House(LONG)
        self.assertEqual((house.shorten(), house.bounds(), len(house)), (1, (1, 1), 1))
        # Once more: nothing is spared, but it is a deed.
        self.assertEqual((house.shorten(), len(house)), (0, 2))
        rng = rng_of(73)
        kinds = set()
        for _ in range(150):
            errand = drawn_errand(rng, many=6)
            house = House(errand_text(errand))
            m, standing, wish, row = errand
            choices = [row, joined(house.life())[3], row_for(standing, wish, m)]
            best = min(len(plan) for plan in choices)
            first = [plan for plan in choices if len(plan) == best][0]
            kinds.add(choices.index(first))
            self.assertEqual(house.shorten(), len(row) - best)
            self.assertEqual(house.life(), (standing, wish, m, first))
            self.assertEqual(len(house), 1)
        self.assertEqual(kinds, {0, 1, 2})

    def test_pour_on(self):
        rng = rng_of(74)
        for _ in range(60):
            errand = drawn_errand(rng, many=6)
            m, standing, wish, row = errand
            for many in (0, 1, 2, len(row), len(row) + 1, 10 ** 3999):
                house = House(errand_text(errand))
                self.assertEqual(house.pour_on(many), min(many, len(row)))
                # One after another, each as a change.
                life = (standing, wish, m, row)
                for pour in row[:many]:
                    life = changed(life, ("pour", pour))
                self.assertEqual(house.life(), life)
                self.assertEqual(len(house), 1)
                if many >= len(row):
                    self.assertEqual(house.life()[3], ())
                    self.assertIs(meets(house.life()[0], wish, m, ()), True)

    def test_undo(self):
        house = House(TEXT)
        self.assertIs(house.undo(), False)
        rng = rng_of(75)
        for _ in range(20):
            house = House(errand_text(drawn_errand(rng, many=4)))
            lives = [house.life()]
            for _ in range(8):
                kind = rng.randrange(4)
                if kind == 0:
                    house.shorten()
                elif kind == 1:
                    house.pour_on(rng.randrange(3))
                else:
                    change = drawn_change(rng, house.life())
                    if not is_change(house.life(), change):
                        continue
                    house.do(change)
                lives.append(house.life())
                self.assertEqual(len(house), len(lives) - 1)
            while len(lives) > 1:
                self.assertEqual((house.life(), len(house)), (lives.pop(), len(lives)))
                self.assertIs(house.undo(), True)
            self.assertEqual((house.life(), len(house), house.undo()), (lives[0], 0, False))

    def test_within(self):
        house = House(LONG)
        house.do(("swap", 0, 1))
        ahead = told_by(house)

        def undo_all(told):
            """Undo more than was done within."""
            count = 0
            while told.undo():
                count += 1
            return count

        def work_and_fail(told):
            """Do something, undo more, and fail."""
            told.do(("go", 0))
            undo_all(told)
            told.pour_on(1)
            raise KeyError("x")

        def work_within(told):
            """Use it again, behind a deed."""
            told.pour_on(1)
            inner = told_by(told)
            self.assertEqual(told.within(undo_all), 2)
            self.assertEqual(told_by(told), inner)
            with self.assertRaises(KeyError):
                told.within(work_and_fail)
            self.assertEqual(told_by(told), inner)
            told.undo()
            return told_by(told)

        self.assertEqual(house.within(undo_all), 1)
        self.assertEqual(told_by(house), ahead)
        self.assertIs(house.within(lambda told: told), house)
        self.assertIsNone(house.within(work=lambda told: told.do(("go", 0))))
        self.assertEqual(house.within(lambda told: (told.shorten(), len(told))), (2, 2))
        self.assertEqual(told_by(house), ahead)
        with self.assertRaises(KeyError):
            house.within(work_and_fail)
        self.assertEqual(told_by(house), ahead)
        with self.assertRaises(InvalidQuestion):
            house.within(lambda told: told.pour_on(-1))
        self.assertEqual(told_by(house), ahead)
        self.assertEqual(house.within(work_within), ahead)
        self.assertEqual(told_by(house), ahead)
        self.assertIs(house.undo(), True)
        self.assertEqual((house.life(), len(house)), (House(LONG).life(), 0))

    def test_what_it_told_stays(self):
        house = House(LONG)
        told = told_by(house)
        kept = repr(told)
        house.shorten()
        house.do(("go", 0))
        house.pour_on(5)
        self.assertEqual(repr(told), kept)
        self.assertNotEqual(repr(told_by(house)), kept)


class FactsTest(unittest.TestCase):
    def look_at(self, house, least):
        """Look at what always holds, by the test's own pours; least is the least number of pours, if it is known."""
        standing, wish, m, plan = house.life()
        last = played(standing, m, plan)
        self.assertTrue(all(wish[record] == at for at, block in enumerate(last[1]) for record in block))
        needed, planned = house.bounds()
        self.assertEqual(planned, len(plan))
        self.assertLessEqual(needed, planned)
        self.assertEqual(gap(house.life()), planned - needed)
        if least is not None:
            self.assertTrue(needed <= least <= planned)
            self.assertTrue(needed != planned or least == planned)
        # Poured on to the end all stand as they wish.
        self.assertEqual(house.within(lambda told: (told.pour_on(len(plan)), told.life())), (len(plan), (last, wish, m, ())))

    def test_many_deeds(self):
        rng = rng_of(76)
        for _ in range(25):
            house = House(errand_text(drawn_errand(rng, many=3)))
            for _ in range(25):
                planned, kind = len(house.life()[3]), rng.random()
                if kind < 0.1:
                    house.shorten()
                elif kind < 0.2:
                    house.pour_on(rng.randrange(3))
                elif kind < 0.3:
                    house.undo()
                else:
                    change = drawn_change(rng, house.life())
                    if is_change(house.life(), change):
                        house.do(change)
                        self.assertLessEqual(len(house.life()[3]), planned + 1)
                self.look_at(house, None)

    def test_the_least_number(self):
        rng = rng_of(77)
        for _ in range(12):
            house = House(errand_text(self.small_errand(rng)))
            least = self.least(house)
            for _ in range(8):
                change = drawn_change(rng, house.life())
                if len(house.life()[1]) > 3 and change[0] == "come" or not is_change(house.life(), change):
                    continue
                house.do(change)
                later = self.least(house)
                self.assertLessEqual(abs(later - least), 1)
                least = later
                self.look_at(house, least)

    def small_errand(self, rng):
        """Some errand of three blocks."""
        standing = drawn_standing(rng, b=rng.randint(1, 2), many=3, records=3)
        row, last = drawn_row(rng, standing, 2, rng.randint(0, 3))
        return 2, standing, plain_wish(last), row

    def least(self, house):
        """The least number of pours, by a search."""
        (b, blocks), wish, m, _ = house.life()
        met = tuple(tuple(record for record, goal in enumerate(wish) if goal == at) for at in range(len(blocks)))
        return distances((b, blocks), m)[b, met]

    def test_within_seconds(self):
        rng = rng_of(78)
        start = time.monotonic()
        for b, records, m in ((16, 1024, 2), (16, 1000, 16)):
            standing = drawn_standing(rng, b=b, many=64, records=records)
            row, last = drawn_row(rng, standing, m, 300)
            wish = plain_wish(last)
            text = errand_text((m, standing, wish, row))
            if len(text) > 100000:
                row, last = drawn_row(rng, standing, m, 40)
                wish = plain_wish(last)
                text = errand_text((m, standing, wish, row))
            house = House(text)
            spared = house.shorten()
            self.assertEqual(house.bounds()[1], len(row) - spared)
            house.do(("swap", 3, 1000 - 7))
            house.do(("go", 17))
            self.assertEqual(house.pour_on(10), min(10, len(row) - spared + 1))
            house.reads()
            house.pour_on(10 ** 9)
            self.assertEqual(house.life()[3], ())
            self.assertEqual(house.bounds(), (0, 0))
        self.assertLess(time.monotonic() - start, 60)


if __name__ == "__main__":
    unittest.main()
