"""Points 64 to 67: lives, changes, what a change costs, rows of changes."""

import itertools
import time
import unittest

from fewestpours.anywish import row_for
from fewestpours.below import pours_needed
from fewestpours.errors import InvalidQuestion, InvalidRow
from fewestpours.lives import diary, joined, lived
from fewestpours.living import begun, gap, is_life
from fewestpours.livingchanges import changed, is_change
from fewestpours.standings import is_wish
from helpers import (WRONG_VALUES, all_in_tuples, all_pours, broken, distances, drawn_pour, drawn_row, drawn_standing, drawn_wish, nested,
                     plain_wish, plainly_poured, played, rng_of)

LIFE = ((2, ((0, 1), (2, 3))), (0, 1, 0, 1), 2, (((0, 1), ((0, 2), (1, 3))),))


def drawn_life(rng, most=3, **kinds):
    """Some life, with at most so many pours more than it needs."""
    standing = drawn_standing(rng, **kinds)
    m = rng.randint(2, 4)
    row, last = drawn_row(rng, standing, m, rng.randint(0, most))
    if rng.random() < 0.5:
        return standing, plain_wish(last), m, row
    wish = drawn_wish(rng, standing)
    return standing, wish, m, row + row_for(last, wish, m)


def all_changes(life):
    """All changes that can be made, but for the pours; the test's own look at them."""
    (b, blocks), wish, m, plan = life
    many, records = range(len(blocks)), range(len(wish))
    for block, goal in itertools.product(many, many):
        if len(blocks[block]) < b and wish.count(goal) < b and len(wish) < 1024:
            yield "come", block, goal
    for record in records:
        yield "go", record
        for goal in many:
            if wish[record] == goal or wish.count(goal) < b:
                yield "wish", record, goal
        for other in records:
            yield "swap", record, other


def plainly_changed(life, change):
    """The standing and the wish behind a change."""
    (b, blocks), wish, m, plan = life
    word, *told = change
    goals = list(wish)
    if word == "come":
        laid = [block + (len(wish),) if at == told[0] else block for at, block in enumerate(blocks)]
        return (b, tuple(laid)), wish + (told[1],)
    if word == "go":
        names = [record for record in range(len(wish)) if record != told[0]]
        laid = tuple(tuple(names.index(record) for record in block if record != told[0]) for block in blocks)
        return (b, laid), tuple(wish[record] for record in names)
    if word == "wish":
        goals[told[0]] = told[1]
    if word == "swap":
        goals[told[0]], goals[told[1]] = goals[told[1]], goals[told[0]]
    if word == "pour":
        return plainly_poured(life[0], told[0]), wish
    return life[0], tuple(goals)


def least_by_search(life):
    """The least number of pours that meet the wish of a life, by a search over all standings."""
    (b, blocks), wish, m, _ = life
    met = tuple(tuple(record for record, goal in enumerate(wish) if goal == at) for at in range(len(blocks)))
    return distances((b, blocks), m)[b, met]


def plainly_joined(standing, m, plan):
    """The plan joined pair by pair: always the first two neighbours that have at most m blocks together."""
    plan = list(plan)
    while True:
        for at in range(len(plan) - 1):
            both = {**dict(zip(*plan[at])), **dict(zip(*plan[at + 1]))}
            if len(both) <= m:
                plan[at:at + 2] = [(tuple(sorted(both)), tuple(both[block] for block in sorted(both)))]
                break
        else:
            break
    left = []
    for pour in plan:
        later = plainly_poured(standing, pour)
        left += [pour] if later != standing else []
        standing = later
    return tuple(left)


class LivesTest(unittest.TestCase):
    def test_which_are_lives(self):
        self.assertIs(is_life(LIFE), True)
        rng = rng_of(64)
        for _ in range(60):
            life = drawn_life(rng)
            standing, wish, m, plan = life
            self.assertIs(is_life(life), True)
            self.assertIs(begun(*life) == life, True)
            self.assertEqual(gap(life), len(plan) - pours_needed(standing, wish, m))
            self.assertGreaterEqual(gap(life), 0)
            for wrong in ((wish, standing, m, plan), (standing, wish, plan, m), life + (0,), life[:3], (standing, wish + (0,), m, plan),
                          (standing, wish, 1, plan), (standing, wish, 17, plan), (standing, wish, m, plan + plan[-1:] + ((),))):
                self.assertIs(is_life(wrong), False, wrong)
        self.assertIs(is_life(((1, ((),)), (), 2, ())), True)
        self.assertIs(is_life(((1, ((), ())), (), 16, (((0, 1), ((), ())),))), True)
        self.assertIs(is_life(((1, ((0,), ())), (1,), 2, ())), False)

    def test_any_value(self):
        for value in itertools.chain(broken(LIFE), WRONG_VALUES, (nested(40),)):
            self.assertIs(is_life(value), False, value)
        # m is 2 here, so True is not tried in its place by what breaks the life.
        for wrong in (True, 2.0, "2", None, 0, 1, -2, 17):
            self.assertIs(is_life(LIFE[:2] + (wrong,) + LIFE[3:]), False)
        for row in itertools.chain(broken(LIFE[3]), WRONG_VALUES, ((), LIFE[3] * 2 + ((),), LIFE[3] + (((0, 1), ((0, 1), (2, 3))),))):
            with self.assertRaises(InvalidRow) as caught:
                begun(*LIFE[:3], row)
            self.assertEqual(caught.exception.at, 3)
        self.assertEqual(begun(*LIFE), LIFE)
        self.assertEqual(begun(standing=LIFE[0], wish=LIFE[1], m=2, row=LIFE[3] * 2), LIFE[:3] + (LIFE[3] * 2,))

    def test_gap(self):
        self.assertEqual(gap(LIFE), 0)
        self.assertEqual(gap(LIFE[:3] + (LIFE[3] * 3,)), 2)
        self.assertEqual(gap(((1, ((),)), (), 2, ())), 0)


class ChangesTest(unittest.TestCase):
    def test_which_can_be_made(self):
        rng = rng_of(65)
        self.assertEqual((is_change(LIFE, ("come", 0, 0)), is_change(LIFE, ("wish", 0, 1)), is_change(LIFE, ("swap", 0, 1))), (False, False, True))
        for _ in range(40):
            life = drawn_life(rng, b=rng.randint(1, 3), many=rng.randint(1, 3))
            told = set(all_changes(life))
            things = range(-1, max(len(life[1]), len(life[0][1])) + 2)
            for one in things:
                for change in [("go", one)] + [(word, one, other) for word in ("come", "wish", "swap") for other in things]:
                    self.assertIs(is_change(life, change), change in told, (life, change))

    def test_edges(self):
        # A block with b records and with one less, a wish of a block that b wish and that one less wishes.
        life = ((2, ((0, 1), (2,), ())), (1, 1, 2), 2, (((0, 1), ((2,), (0, 1))), ((0, 2), ((), (2,)))))
        self.assertIs(is_life(life), True)
        for block, goal in itertools.product(range(3), repeat=2):
            self.assertIs(is_change(life, ("come", block, goal)), block != 0 and goal != 1)
        self.assertEqual([is_change(life, ("wish", 2, goal)) for goal in range(4)], [True, False, True, False])
        self.assertEqual([is_change(life, ("wish", 0, goal)) for goal in range(4)], [True, True, True, False])
        self.assertEqual([is_change(life, ("swap", 1, other)) for other in range(4)], [True, True, True, False])
        self.assertEqual([is_change(life, ("go", record)) for record in range(-1, 4)], [False, True, True, True, False])
        # A life without records.
        empty = ((1, ((), ())), (), 2, ())
        self.assertEqual((is_change(empty, ("go", 0)), is_change(empty, ("come", 1, 0)), is_change(empty, ("swap", 0, 0))), (False, True, False))
        self.assertIs(is_change(empty, ("pour", ((0, 1), ((), ())))), True)
        self.assertEqual(changed(empty, ("come", 1, 0)), ((1, ((), (0,))), (0,), 2, (((0, 1), ((0,), ())),)))
        # 1,024 records.
        for many in (1023, 1024):
            records = tuple(range(many))
            blocks = tuple(records[at:at + 32] for at in range(0, 1024, 32)) + ((),)
            full = ((64, blocks), tuple(record // 32 for record in records), 2, ())
            self.assertIs(is_life(full), True)
            self.assertIs(is_change(full, ("come", 32, 32)), many == 1023)
        with self.assertRaises(InvalidQuestion):
            changed(full, ("come", 32, 32))

    def test_pours(self):
        rng = rng_of(66)
        for _ in range(30):
            life = drawn_life(rng, most=2, b=2)
            standing, wish, m, plan = life
            pours = list(all_pours(standing, m)) if len(wish) < 5 else []
            for pour in pours[:200]:
                self.assertIs(is_change(life, ("pour", pour)), True)
                later = changed(life, ("pour", pour))
                self.assertEqual(later[:3], (plainly_poured(standing, pour), wish, m))
                self.assertIs(is_life(later), True)
                self.assertLessEqual(len(later[3]), len(plan) + 1)
                if plan and plan[0] == pour:
                    self.assertEqual(later[3], plan[1:])
            for pour in ((), ((0,), ((),)), ((0, 1), ((99,), ())), ((0, 99), ((), ())), plan):
                self.assertIs(is_change(life, ("pour", pour)), False)
        # The plan's first pour, with an empty plan and with another one.
        first = LIFE[3][0]
        self.assertEqual(changed(LIFE, ("pour", first)), ((2, ((0, 2), (1, 3))), (0, 1, 0, 1), 2, ()))
        self.assertEqual(changed(LIFE[:3] + (LIFE[3] * 2,), ("pour", first))[3], LIFE[3])
        behind = changed(LIFE, ("pour", first))
        again = changed(behind, ("pour", ((0, 1), ((0, 1), (2, 3)))))
        self.assertEqual((again[0], len(again[3])), (LIFE[0], 1))
        self.assertIs(is_life(again), True)
        other = changed(LIFE, ("pour", ((0, 1), ((2, 3), (0, 1)))))
        self.assertEqual((is_life(other), len(other[3]) <= 2), (True, True))

    def look_at(self, life, change):
        """Look at what a change does, in the test's own way; the life behind it."""
        standing, wish, m, plan = life
        later = changed(life, change)
        self.assertEqual((later[:2], later[2]), (plainly_changed(life, change), m), (life, change))
        self.assertEqual(played(later[0], m, later[3])[1],
                         tuple(tuple(record for record, goal in enumerate(later[1]) if goal == at) for at in range(len(later[0][1]))))
        self.assertTrue(is_life(later) and is_wish(*later[:2]) and all_in_tuples(later))
        more = len(later[3]) - len(plan)
        self.assertLessEqual(more, 1)
        if change[0] == "go" or (change[0] in ("swap", "wish") and later[1] == wish):
            self.assertLessEqual(more, 0)
        if change[0] == "pour" and plan and plan[0] == change[1]:
            self.assertEqual(later[3], plan[1:])
        return later

    def test_what_they_do(self):
        rng = rng_of(67)
        self.assertEqual(changed(LIFE, ("go", 1)), ((2, ((0,), (1, 2))), (0, 0, 1), 2, (((0, 1), ((0, 1), (2,))),)))
        for _ in range(120):
            life = drawn_life(rng, most=4)
            for change in all_changes(life):
                self.look_at(life, change)
                self.assertIs(is_change(life, change), True)

    def test_rows_of_them(self):
        rng = rng_of(68)
        for _ in range(25):
            life = drawn_life(rng, b=2, many=rng.randint(2, 4))
            first, changes = life, []
            for _ in range(12):
                choices = list(all_changes(life))
                changes.append(rng.choice(choices) if rng.random() < 0.7 else ("pour", drawn_pour(rng, life[0], life[2])))
                if changes[-1][0] == "pour" and life[3] and rng.random() < 0.6:
                    changes[-1] = ("pour", life[3][0])
                life = self.look_at(life, changes[-1])
            self.assertLessEqual(len(life[3]), len(first[3]) + len(changes))
            kept = list(changes)
            self.assertEqual(lived(first, changes), life)
            self.assertEqual(lived(first, tuple(changes)), life)
            self.assertEqual(changes, kept)
            told = diary(first, changes)
            self.assertEqual(len(told), 13)
            self.assertTrue(all_in_tuples(told))
            for at, (planned, needed) in enumerate(told):
                now = lived(first, changes[:at])
                self.assertEqual((planned, needed), (len(now[3]), pours_needed(*now[:3])))
                self.assertTrue(needed <= planned <= (told[at - 1][0] + 1 if at else planned))

    def test_any_value(self):
        good = (("come", 1, 0), ("go", 0), ("wish", 0, 1), ("swap", 0, 1), ("pour", ((0, 1), ((0,), (1,)))))
        life = ((2, ((0,), (1,))), (1, 0), 2, (((0, 1), ((1,), (0,))),))
        for change in good:
            self.assertIs(is_change(life, change), True)
            wrong = [change + (0,), change[:-1], (change,), (change[0],), ("fly",) + change[1:], (None,) + change[1:], (["go"],) + change[1:]]
            for value in itertools.chain(broken(change), wrong):
                # What breaks a change may make another one of it.
                if repr(value) not in [repr(other) for other in all_changes(life)]:
                    self.look_at_wrong(life, value)
        for value in itertools.chain(WRONG_VALUES, (nested(40), ("go", True), ("go", False), ("go", 0.0), ("swap", False, True), ("come", False, 1),
                                                    ("wish", 0, True), ("pour", ((False, True), ((0,), (1,)))), ("pour", [(0, 1), ((0,), (1,))]),
                                                    ("go", (0,)), ("go", [0]), ("go", {}), ["go", 0], ("go", 10 ** 3999), "go 0", ("pour",))):
            self.look_at_wrong(life, value)

    def look_at_wrong(self, life, value):
        """Look at what is told of a value that is no change."""
        self.assertIs(is_change(life, value), False, value)
        with self.assertRaises(InvalidQuestion) as caught:
            changed(life, value)
        self.assertEqual(caught.exception.at, 1)
        for ahead in range(3):
            with self.assertRaises(InvalidQuestion) as caught:
                lived(life, [("swap", 0, 0)] * ahead + [value, ("swap", 0, 0)])
            self.assertEqual(caught.exception.at, ahead)

    def test_the_least_number_turns_by_one(self):
        rng = rng_of(69)
        for b, many, records, m in ((1, 3, 2, 2), (2, 2, 3, 2), (2, 3, 3, 2), (1, 4, 3, 2), (1, 4, 3, 3), (2, 3, 4, 2), (2, 3, 3, 3), (1, 3, 3, 2)):
            standing = drawn_standing(rng, b=b, many=many, records=records)
            wish = drawn_wish(rng, standing)
            life = begun(standing, wish, m, row_for(standing, wish, m))
            ahead = least_by_search(life)
            changes = list(all_changes(life)) + [("pour", drawn_pour(rng, standing, m)) for _ in range(4)]
            for change in rng.sample(changes, min(len(changes), 14)):
                later = least_by_search(changed(life, change))
                self.assertLessEqual(abs(later - ahead), 1)
                self.assertTrue(change[0] != "go" or later <= ahead)
                self.assertTrue(change[0] != "come" or later >= ahead)
                self.assertLessEqual(later, len(changed(life, change)[3]))


class RowsTest(unittest.TestCase):
    def test_no_changes(self):
        self.assertEqual((lived(LIFE, ()), lived(LIFE, []), diary(LIFE, ()), diary(LIFE, [])), (LIFE, LIFE, ((1, 1),), ((1, 1),)))
        self.assertEqual(diary(LIFE, [("pour", LIFE[3][0]), ("swap", 0, 1)]), ((1, 1), (0, 0), (1, 1)))

    def test_joined(self):
        rng = rng_of(70)
        for _ in range(300):
            life = drawn_life(rng, most=7, records=rng.choice((None, 0, 1)))
            told = joined(life)
            self.assertEqual(told[:3], life[:3])
            self.assertEqual(told[3], plainly_joined(life[0], life[2], life[3]))
            self.assertLessEqual(len(told[3]), len(life[3]))
            self.assertTrue(is_life(told) and all_in_tuples(told))

    def test_joined_from_the_beginning(self):
        standing = (1, ((0,), (1,), (2,), ()))
        idle = ((0, 1), ((0,), (1,)))
        row = (((0, 1), ((1,), (0,))), ((1, 2), ((2,), (0,))), ((2, 3), ((), (0,))))
        life = (standing, (3, 0, 1), 3, row)
        self.assertIs(is_life(life), True)
        # The first two become one; with three rooms the third one stays.
        self.assertEqual(joined(life)[3], (((0, 1, 2), ((1,), (2,), (0,))), ((2, 3), ((), (0,)))))
        self.assertEqual(joined(life[:2] + (4, row))[3], (((0, 1, 2, 3), ((1,), (2,), (), (0,))),))
        self.assertEqual(joined(life[:2] + (2, row))[3], row)
        # Pours that do nothing: they count until they are left out, and what is left is not joined again.
        far = ((2, 3), ((2,), ()))
        self.assertEqual(joined((standing, (0, 1, 2), 2, (idle, far, idle)))[3], ())
        there, back = ((0, 1), ((1,), (0,))), ((0, 1), ((0,), (1,)))
        self.assertEqual(joined((standing, (0, 1, 2), 2, (there, far, back)))[3], (there, back))
        self.assertEqual(joined((standing, (0, 1, 2), 2, (there, back)))[3], ())

    def test_within_seconds(self):
        rng = rng_of(71)
        standing = drawn_standing(rng, b=16, many=64, records=1023)
        start = time.monotonic()
        for m in (2, 16):
            row, last = drawn_row(rng, standing, m, 400)
            life = begun(standing, plain_wish(last), m, row)
            self.assertEqual(joined(life)[3], plainly_joined(standing, m, row))
            changes = []
            for word in ("come", "swap", "pour", "go", "pour", "wish", "come"):
                (b, blocks), wish, _, plan = now = lived(life, changes)
                gaps = [at for at in range(64) if len(blocks[at]) < b]
                goals = [at for at in range(64) if wish.count(at) < b]
                told = {"come": (gaps[:1] + goals[:1]), "swap": [5, 900], "pour": [plan[0]], "go": [3], "wish": [7] + goals[:1]}
                changes.append((word, *told[word]))
                self.assertIs(is_life(now), True)
            told = diary(life, changes)
            self.assertEqual((len(told), told[0]), (8, (400, pours_needed(*life[:3]))))
            self.assertIs(is_life(lived(life, changes)), True)
        self.assertLess(time.monotonic() - start, 30)


if __name__ == "__main__":
    unittest.main()
