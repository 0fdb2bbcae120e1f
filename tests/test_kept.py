"""What is kept of blocks that are let by, at each moment of a machine."""

import copy
import unittest

from stackproof.errors import StackError
from stackproof.machine import Machine, run
from stackproof.rows import kinds_of
from stackproof.trails import height, let_by, trail_of
from tests.programs import DOWN, EVEN, LET_BY, NUM, SUM, chain, some_program, some_values

BENEATH = ([], [0], ["low"], [5, "a", "", 0], ["low"] * 70)
SEEDS = range(60)
STEPS = 150


def kinds_told(program, trails, frames):
    """The kinds that the trails tell at the frames' places, the outermost frame first."""
    told = []
    for at, (name, place) in enumerate(frames):
        kinds = trails[name][place]
        if at + 1 < len(frames):
            outs = program[frames[at + 1][0]][1]
            if kinds[len(kinds) - len(outs):] != outs:
                raise AssertionError(f"{frames} does not end in {outs}")
            kinds = kinds[:len(kinds) - len(outs)]
        told += kinds
    return tuple(told)


class KeptCase(unittest.TestCase):

    def assert_kept(self, program, name, values, beneath, steps=STEPS):
        """No step is refused, and each moment is as it is told; the most values that stood there."""
        self.assertIs(let_by(program, name), True)
        self.assertEqual(kinds_of(values), program[name][0])
        trails = {each: trail_of(program, each) for each in program}
        before = copy.deepcopy(program)
        limit = height(program, name)
        made = Machine(program, name, beneath + values)
        most = 0
        for _ in range(steps):
            above = made.stack[len(beneath):]
            self.assertEqual(made.stack[:len(beneath)], beneath)
            self.assertEqual(kinds_of(above), program[name][1] if made.over() else
                             kinds_told(program, trails, made.frames))
            most = max(most, len(above))
            if made.over():
                break
            made.step()
        if limit is not None:
            self.assertLessEqual(most, limit)
        self.assertEqual(program, before)
        return most


class Kept(KeptCase):

    def test_programs_made_by_hand(self):
        for program, name, stacks in LET_BY:
            for values in stacks:
                for beneath in BENEATH:
                    with self.subTest(name=name, values=values, beneath=beneath):
                        self.assert_kept(program, name, values, beneath, 400)

    def test_each_block_of_them(self):
        for program, _, _ in LET_BY:
            for name in program:
                for number in (0, 1, 2):
                    with self.subTest(name=name, number=number):
                        values = some_values(program[name][0], number)
                        self.assert_kept(program, name, values, ["low", 1])

    def test_programs_by_seeds(self):
        for seed in SEEDS:
            program = some_program(seed)
            for name in program:
                for number in (0, 1):
                    with self.subTest(seed=seed, name=name, number=number):
                        values = some_values(program[name][0], number)
                        self.assert_kept(program, name, values, BENEATH[seed % 5])

    def test_runs_that_are_over_leave_the_outs(self):
        for seed in SEEDS:
            program = some_program(seed, 6, 7, False)
            for name, (ins, outs, _) in program.items():
                with self.subTest(seed=seed, name=name):
                    for beneath in BENEATH:
                        answer = run(program, name, beneath + some_values(ins), 10 ** 6)
                        self.assertEqual(answer[:len(beneath)], beneath)
                        self.assertEqual(kinds_of(answer[len(beneath):]), outs)

    def test_a_block_that_is_not_let_by_may_be_refused(self):
        """So that the above says something: one row too many, and a step is refused."""
        for seed in SEEDS:
            program = some_program(seed, 6, 7, False)
            ins, outs, rows = program["0"]
            program["0"] = (ins, outs, rows + [("drop",)] * (len(outs) + 1))
            self.assertIs(let_by(program, "0"), False)
            with self.assertRaises(StackError):
                run(program, "0", some_values(ins), 10 ** 6)

    def test_many_frames(self):
        for program, name in ((SUM, "sum"), (DOWN, "down"), (EVEN, "even")):
            self.assert_kept(program, name, [60], [1, "low"], 600)

    def test_a_long_chain(self):
        self.assert_kept(chain(60), "0", [1], ["low"])


class Heights(KeptCase):

    def test_a_machine_without_ifs_comes_to_its_height(self):
        for seed in SEEDS:
            program = some_program(seed, 6, 7, False)
            for name in without_ifs(program):
                with self.subTest(seed=seed, name=name):
                    values = some_values(program[name][0])
                    most = self.assert_kept(program, name, values, ["low"], 3000)
                    self.assertEqual(most, height(program, name))

    def test_one_of_both_ways_of_an_if_comes_to_the_height(self):
        program = {
            "box": ((NUM,), (NUM,), [("num", 1), ("swap",), ("if", "up", "flat")]),
            "up": ((NUM,), (NUM,), [("copy", 0), ("copy", 0), ("add",), ("add",)]),
            "flat": ((NUM,), (NUM,), []),
        }
        self.assertEqual(height(program, "box"), 3)
        self.assertEqual(self.assert_kept(program, "box", [1], ["low"]), 3)
        self.assertEqual(self.assert_kept(program, "box", [0], ["low"]), 2)

    def test_programs_by_seeds_have_heights_just_without_a_circle(self):
        """A block without a height comes to one that comes to itself; the others don't."""
        found = []
        for seed in SEEDS:
            program = some_program(seed)
            for name in program:
                with self.subTest(seed=seed, name=name):
                    ways = steps_from(program, name) | {name}
                    meant = all(each not in steps_from(program, each) for each in ways)
                    self.assertEqual(height(program, name) is not None, meant)
                    found.append(meant)
        self.assertIn(True, found)
        self.assertIn(False, found)

    def test_heights_by_their_own_words(self):
        for seed in SEEDS:
            program = some_program(seed, 6, 7, False)
            for name in program:
                with self.subTest(seed=seed, name=name):
                    self.assertEqual(height(program, name), height_told(program, name))


def without_ifs(program):
    """The blocks that come to no if."""
    found = []
    for name in program:
        rows = [row for each in steps_from(program, name) | {name} for row in program[each][2]]
        if all(row[0] != "if" for row in rows):
            found.append(name)
    return found


def steps_from(program, name):
    """The blocks to which a block can come, a set."""
    found = set()
    ahead = [name]
    while ahead:
        for row in program[ahead.pop()][2]:
            for other in row[1:] if row[0] in ("call", "if") else ():
                if other not in found:
                    found.add(other)
                    ahead.append(other)
    return found


def height_told(program, name):
    """The height as the document words it, block within block."""
    ins, _, rows = program[name]
    trail = trail_of(program, name)
    sizes = [len(kinds) for kinds in trail]
    for row, kinds in zip(rows, trail):
        if row[0] == "call":
            sizes.append(len(kinds) - len(program[row[1]][0]) + height_told(program, row[1]))
        if row[0] == "if":
            greater = max(height_told(program, row[1]), height_told(program, row[2]))
            sizes.append(len(kinds) - 1 - len(program[row[1]][0]) + greater)
    return max(sizes)


if __name__ == "__main__":
    unittest.main()
