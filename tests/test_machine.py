"""Points 14 to 18: programs, states, steps, programs as rows and rows as programs."""

import itertools
import time
import unittest

from fewestpours.asrows import held_standing, program_of, row_of
from fewestpours.diskcode import is_program, moves_in, reads_in
from fewestpours.diskmachine import done_once, first_state, is_idle, is_state, run
from fewestpours.errors import InvalidRow
from fewestpours.pours import behind
from fewestpours.standings import is_met, is_standing
from helpers import (
    WRONG_VALUES,
    all_in_tuples,
    broken,
    distances,
    drawn_row,
    drawn_standing,
    nested,
    rng_of,
    split,
)

PROGRAM = (("read", 0, 0), ("read", 1, 1), ("swap", 0, 1, 1, 1), ("write", 0, 0), ("write", 1, 1))


def plain_step(state, instruction):
    """The state behind an instruction that can be done, None if it can't."""
    b, blocks, rooms = state
    blocks, rooms = dict(enumerate(blocks)), dict(enumerate(rooms))
    if instruction[0] == "read":
        _, block, room = instruction
        if blocks.get(block) is None or rooms.get(room, ()) is not None:
            return None
        rooms[room] = (blocks[block] + (None,) * b)[:b]
        blocks[block] = None
    elif instruction[0] == "write":
        _, room, block = instruction
        if blocks.get(block, ()) is not None or rooms.get(room) is None:
            return None
        blocks[block] = tuple(sorted(set(rooms[room]) - {None}))
        rooms[room] = None
    else:
        _, room, place, other, further = instruction
        if rooms.get(room) is None or rooms.get(other) is None or place >= b or further >= b:
            return None
        told = {key: list(places) for key, places in rooms.items() if places is not None}
        told[room][place], told[other][further] = told[other][further], told[room][place]
        rooms.update({key: tuple(places) for key, places in told.items()})
    return b, tuple(blocks.values()), tuple(rooms.values())


def drawn_instruction(rng, state):
    """Some instruction, perhaps one that can't be done."""
    b, blocks, rooms = state
    word = rng.choice(("read", "read", "write", "swap", "swap"))
    if word == "swap":
        used = [at for at, room in enumerate(rooms) if room is not None] or [0]
        return (word, rng.choice(used), rng.randint(0, b - 1), rng.choice(used), rng.randint(0, b - 1))
    if word == "read":
        return (word, rng.randint(0, len(blocks) - 1), rng.randint(0, len(rooms) - 1))
    return (word, rng.randint(0, len(rooms) - 1), rng.randint(0, len(blocks) - 1))


def drawn_program(rng, standing, m, many):
    """A pair: some program that can be run, and the states ahead of each instruction and at the end."""
    states = [first_state(standing, m)]
    program = []
    for _ in range(many):
        instruction = drawn_instruction(rng, states[-1])
        later = plain_step(states[-1], instruction)
        if later is not None:
            states.append(later)
            program.append(instruction)
    return tuple(program), states


class ProgramsTest(unittest.TestCase):
    def test_programs(self):
        for value in ((), PROGRAM, (("swap", 0, 0, 0, 0),), (("read", 10 ** 3000, 99),)):
            self.assertIs(is_program(value), True)
        for value in (("read", 0, 0), (("read", 0),), (("read", 0, 0, 0),), (("write", 0, -1),), (("swap", 0, 0),), ((),),
                      (("Read", 0, 0),), (("", 0, 0),), ((b"read", 0, 0),), (["read", 0, 0],), [("read", 0, 0)],
                      (("read", True, 0),), (("read", 0, "0"),), (("swap", 0, 0, 0, 0, 0),), (("read", (0, 0)),),
                      ((("read",), 0, 0),), (("swap", 0, 0, 0, None),), (("done", 0, 0),), (("move", 0, 0),)):
            self.assertIs(is_program(value), False, value)
        for value in itertools.chain(broken(PROGRAM), (nested(2000),)):
            self.assertIs(is_program(value), False, value)
        for value in WRONG_VALUES:
            self.assertIs(is_program(value), type(value) is tuple and value == ())
            self.assertIs(is_program((value,)), False)

    def test_counts(self):
        self.assertEqual((reads_in(PROGRAM), moves_in(PROGRAM)), (2, 4))
        self.assertEqual((reads_in(()), moves_in(())), (0, 0))
        self.assertEqual((reads_in(PROGRAM[2:] * 3), moves_in(PROGRAM[2:] * 3)), (0, 6))


class StatesTest(unittest.TestCase):
    def test_states(self):
        for value in ((1, ((),), (None, None)), (2, (None, (0,)), ((1, None), None)), (1, (None,), ((None,), None)),
                      (2, (None, None), ((None, 1), (0, None))), (1, ((),) * 64, (None,) * 16),
                      (64, (None,) * 16, tuple(tuple(range(at, at + 64)) for at in range(0, 1024, 64)))):
            self.assertIs(is_state(value), True, value)
        for value in ((0, ((),), (None, None)), (65, ((),), (None, None)), (1, (), (None, None)), (1, ((),), (None,)),
                      (1, ((),) * 65, (None, None)), (1, ((),), (None,) * 17), (1, (None,), (None, None)),
                      (1, ((),), ((None,), None)), (2, (None,), ((0,), None)), (2, (None,), ((0, None, None), None)),
                      (2, (None,), ((0, 0), None)), (2, (None, (0,)), ((0, 1), None)), (2, ((1, 0),), (None, None)),
                      (2, (None,), ((1, None), None)), (2, (None,), ((True, 0), None)), (1, ((0, 1),), (None, None)),
                      (1, (None,), ((-1,), None)), (1, (None,), (("",), None)), (1, (None,), ((None,), ())),
                      (1, ((),), ()), (1, ((),)), (1, ((),), (None, None), ()), (1, ((),), [None, None]),
                      (1, (None,), ([None], None)), (2, ([0],), (None, None)), (1, ((),), None), (1, None, (None, None)),
                      (64, (None,) * 16 + ((1024,),), tuple(tuple(range(at, at + 64)) for at in range(0, 1024, 64)))):
            self.assertIs(is_state(value), False, value)
        for value in WRONG_VALUES + (nested(2000),):
            self.assertIs(is_state(value), False)

    def test_any_value(self):
        rng = rng_of(1)
        for _ in range(20):
            standing = drawn_standing(rng)
            _, states = drawn_program(rng, standing, rng.randint(2, 3), 8)
            for state in states:
                self.assertIs(is_state(state), True)
                self.assertIs(is_idle(state), set(state[2]) == {None})
            self.assertEqual(states[0], (standing[0], standing[1], states[0][2]))
            for value in broken(states[-1]):
                # The greatest record may be left out, as a place may have none.
                if str(value).count("None") <= str(states[-1]).count("None"):
                    self.assertIs(is_state(value), False, value)

    def test_first_state(self):
        self.assertEqual(first_state((2, ((0, 1), ())), 3), (2, ((0, 1), ()), (None, None, None)))
        self.assertIs(is_idle((1, (None, ()), (None, (None,)))), False)


class StepsTest(unittest.TestCase):
    def test_runs_against_plain_steps(self):
        rng = rng_of(2)
        for _ in range(150):
            standing = drawn_standing(rng)
            m = rng.randint(2, 4)
            state = first_state(standing, m)
            program = []
            for _ in range(30):
                instruction = drawn_instruction(rng, state)
                later = plain_step(state, instruction)
                if later is None:
                    with self.assertRaises(InvalidRow) as caught:
                        done_once(state, instruction)
                    self.assertIn(caught.exception.at, (1, 2, 3))
                    with self.assertRaises(InvalidRow) as caught:
                        run(standing, m, tuple(program) + (instruction, None))
                    self.assertEqual(caught.exception.at, len(program))
                    continue
                self.assertEqual(done_once(state, instruction), later)
                self.assertTrue(all_in_tuples(later))
                program.append(instruction)
                state = later
            self.assertEqual(run(standing, m, tuple(program)), state)
            self.assertIs(is_state(state), True)
            writes = moves_in(program) - reads_in(program)
            self.assertEqual(reads_in(program) - writes, sum(room is not None for room in state[2]))

    def test_which_entry_is_wrong(self):
        state = (2, ((0,), None, (3,)), ((1, 2), None, None))
        for instruction, at in (
            (("read", 1, 1), 1), (("read", 3, 1), 1), (("read", 1, 0), 1), (("read", 0, 0), 2), (("read", 0, 3), 2),
            (("write", 1, 1), 1), (("write", 3, 1), 1), (("write", 1, 0), 1), (("write", 0, 0), 2), (("write", 0, 3), 2),
            (("swap", 1, 0, 0, 0), 1), (("swap", 3, 2, 3, 2), 1), (("swap", 0, 2, 1, 0), 2), (("swap", 0, 0, 1, 0), 3),
            (("swap", 0, 0, 9, 2), 3), (("swap", 0, 0, 0, 2), 4), (("swap", 0, 0, 0, 10 ** 3000), 4),
            (("read", 0), 0), (("read", -1, 1), 0), (("read", True, 1), 0), (("swap", 0, 0), 0), (["read", 0, 1], 0),
            ((), 0), (None, 0), ("read", 0), (("done", 0, 1), 0), (("read", 0, 1, 0), 0), (("read", 0, [1]), 0),
        ):
            with self.assertRaises(InvalidRow) as caught:
                done_once(state, instruction)
            self.assertEqual(caught.exception.at, at, instruction)
        for value in WRONG_VALUES:
            with self.assertRaises(InvalidRow) as caught:
                done_once(state, value)
            self.assertEqual(caught.exception.at, 0)
        self.assertEqual(done_once(state, ("swap", 0, 1, 0, 1)), state)
        self.assertEqual(done_once(state, ("swap", 0, 0, 0, 1)), (2, ((0,), None, (3,)), ((2, 1), None, None)))
        self.assertEqual(done_once(state, ("read", 0, 1)), (2, (None, None, (3,)), ((1, 2), (0, None), None)))
        self.assertEqual(done_once(state, ("write", 0, 1)), (2, ((0,), (1, 2), (3,)), (None, None, None)))

    def test_run_any_value(self):
        standing = (2, ((0, 1), (2, 3)))
        for value in WRONG_VALUES + (list(PROGRAM), nested(2000)):
            if value != () or type(value) is not tuple:
                with self.assertRaises(InvalidRow) as caught:
                    run(standing, 2, value)
                self.assertEqual(caught.exception.at, 0)
        self.assertEqual(run(standing, 2, ()), (2, standing[1], (None, None)))
        for at, entry in itertools.product(range(6), (None, (), ["read", 0, 0], ("read", 9, 0), ("write", 5, 0))):
            with self.assertRaises(InvalidRow) as caught:
                run(standing, 2, PROGRAM[:at] + (entry,) + PROGRAM[at:])
            self.assertEqual(caught.exception.at, at)


class RowsTest(unittest.TestCase):
    def test_held_standing(self):
        state = (2, (None, (1,), None), (None, (3, 2), (None, 0)))
        self.assertEqual(held_standing(state), (2, ((2, 3), (1,), (0,))))
        self.assertEqual(held_standing((1, ((0,), ()), (None, None))), (1, ((0,), ())))
        state = (1, (None, (4,), None, None, None), ((3,), None, (0,), (None,), None, (1,)))
        self.assertEqual(held_standing(state), (1, ((3,), (4,), (0,), (), (1,))))
        rng = rng_of(6)
        for _ in range(50):
            _, states = drawn_program(rng, drawn_standing(rng, many=5), 5, 30)
            for b, blocks, rooms in states:
                shown = [tuple(sorted(set(room) - {None})) for room in rooms if room is not None][::-1]
                held = tuple(shown.pop() if block is None else block for block in blocks)
                self.assertEqual(held_standing((b, blocks, rooms)), (b, held))

    def test_programs_are_rows(self):
        rng = rng_of(3)
        for _ in range(150):
            standing = drawn_standing(rng, many=rng.randint(1, 5))
            m = rng.randint(2, 4)
            program, states = drawn_program(rng, standing, m, 40)
            row = row_of(standing, m, program)
            self.assertTrue(all_in_tuples(row))
            self.assertEqual(row, plain_row(program, states))
            self.assertLessEqual(len(row), reads_in(program))
            self.assertEqual(behind(standing, m, row), held_standing(states[-1]))
            for many in range(len(program) + 1):
                self.assertIs(is_standing(held_standing(states[many])), True)
                begun = row_of(standing, m, program[:many])
                self.assertEqual(begun[:-1], row[:len(begun)][:-1])
                self.assertEqual([pour[0] for pour in begun], [pour[0] for pour in row[:len(begun)]])

    def test_blocks_taken_alone_are_no_pours(self):
        standing = (2, ((0, 1), (2, 3)))
        alone = (("read", 0, 1), ("swap", 1, 0, 1, 1), ("write", 1, 0), ("read", 1, 0))
        self.assertEqual(row_of(standing, 2, alone), ())
        same = (("read", 0, 1), ("read", 1, 0))
        self.assertEqual(row_of(standing, 2, same), (((0, 1), ((2, 3), (0, 1))),))
        self.assertEqual(row_of(standing, 2, ()), ())

    def test_rows_are_programs(self):
        rng = rng_of(4)
        for _ in range(150):
            standing = drawn_standing(rng)
            m = rng.randint(2, 4)
            row, last = drawn_row(rng, standing, m, rng.randint(0, 4))
            program = program_of(standing, m, row)
            self.assertIs(is_program(program), True)
            end = run(standing, m, program)
            self.assertEqual(end, first_state(last, m))
            self.assertEqual(reads_in(program), sum(len(pour[0]) for pour in row))
            self.assertEqual(moves_in(program), 2 * reads_in(program))
            self.assertLessEqual(moves_in(program), 2 * m * len(row))
            self.assertEqual(behind(standing, m, row_of(standing, m, program)), last)
        self.assertEqual(program_of((1, ((),)), 2, ()), ())

    def test_no_program_is_quicker_than_rows(self):
        for standing in ((1, ((0,), (1,), (2,))), (2, ((0, 1), (2,)))):
            far = distances(standing, 2)
            rounds = fewest_reads(standing, 2, 4)
            for other, reads in rounds.items():
                self.assertGreaterEqual(reads, far[other])


def plain_row(program, states):
    """The row of a program, by the words of the document."""
    reads = [at for at, instruction in enumerate(program) if instruction[0] == "read"]
    row = []
    for at, end in zip(reads, reads[1:] + [len(program)]):
        who = tuple(block for block, held in enumerate(states[at + 1][1]) if held is None)
        if len(who) > 1:
            row.append((who, tuple(held_standing(states[end])[1][block] for block in who)))
    return tuple(row)


def fewest_reads(standing, m, most):
    """For each standing that programs with at most so many reads leave on the disk, how many reads it takes."""
    b, blocks = standing
    steps = [("read", block, room) for block in range(len(blocks)) for room in range(m)]
    others = [("write", room, block) for block in range(len(blocks)) for room in range(m)]
    others += [("swap", 0, place, 1, further) for place in range(b) for further in range(b)]
    found = {}
    states = {first_state(standing, m)}
    for reads in range(most + 1):
        waiting = list(states)
        while waiting:
            state = waiting.pop()
            for step in others:
                later = plain_step(state, step)
                if later is not None and later not in states:
                    states.add(later)
                    waiting.append(later)
        for state in states:
            if is_idle(state):
                found.setdefault(state[:2], reads)
        states = {later for state in states for step in steps for later in [plain_step(state, step)] if later}
    return found


class LargeTest(unittest.TestCase):
    def test_large_programs(self):
        rng = rng_of(5)
        begun = time.time()
        standing = (64, split(rng, range(1024), 64, 64))
        for m in (2, 16):
            row, last = drawn_row(rng, standing, m, 60)
            program = program_of(standing, m, row)
            self.assertEqual(run(standing, m, program), first_state(last, m))
            self.assertEqual(behind(standing, m, row_of(standing, m, program)), last)
        small = (1, ((0,), ()))
        program = PROGRAM[:2] + (("swap", 0, 0, 1, 0),) + PROGRAM[3:]
        self.assertEqual(run(small, 2, program * 3999)[1], ((), (0,)))
        self.assertEqual(len(row_of(small, 2, program * 3999)), 3999)
        self.assertIs(is_met((1, run(small, 2, program)[1]), (1,)), True)
        self.assertLess(time.time() - begun, 20)


if __name__ == "__main__":
    unittest.main()
