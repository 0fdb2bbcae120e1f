"""Machines, step by step, and runs."""

import copy
import unittest

from stackproof.errors import Dry, Empty, NoBlock, StackError, WrongKind
from stackproof.machine import Machine, run
from stackproof.rows import done
from tests.programs import DOWN, EACH, EVEN, LET_BY, NUM, SUM, TELL, TEXT, chain, circle

N, T = (NUM,), (TEXT,)

# What its blocks tell doesn't count at a run.
FREE = {
    "flat": (N, T, []),
    "flats": ((), (), [("call", "flat"), ("call", "flat")]),
    "add": ((), (), [("add",)]),
    "inner": ((), (), [("num", 1), ("add",)]),
    "outer": ((), (), [("num", 5), ("call", "inner"), ("show",)]),
    "last": ((), (), [("num", 5), ("call", "inner")]),
    "lasts": ((), (), [("call", "last")]),
    "choose": (T, T, [("if", "yes", "no"), ("long",)]),
    "yes": (T, (), [("text", "yes")]),
    "no": ((), T, [("text", "no"), ("text", "none")]),
    "half": ((), (), [("num", 1), ("if", "flat", "nowhere"), ("num", 0), ("if", "nowhere", "flat")]),
    "lost": ((), (), [("num", 1), ("call", "nowhere")]),
    "lost yes": ((), (), [("if", "nowhere", "flat")]),
    "lost no": ((), (), [("if", "flat", "nowhere")]),
    "on": ((), (), [("call", "on")]),
    "round": ((), (), [("num", 1), ("call", "round"), ("add",)]),
}

# Rows that are refused on a stack, and how.
REFUSED = (
    (("add",), [1], Empty),
    (("add",), [1, "a"], WrongKind),
    (("mul",), [], Empty),
    (("mul",), ["a", 1], WrongKind),
    (("less",), [1], Empty),
    (("less",), ["a", "b"], WrongKind),
    (("join",), ["a"], Empty),
    (("join",), ["a", 1], WrongKind),
    (("long",), [], Empty),
    (("long",), [1], WrongKind),
    (("show",), [], Empty),
    (("show",), ["1"], WrongKind),
    (("swap",), [1], Empty),
    (("drop",), [], Empty),
    (("copy", 0), [], Empty),
    (("copy", 2), [1, 2], Empty),
    (("call", "nowhere"), [], NoBlock),
    (("call", "nowhere"), [1, "a"], NoBlock),
    (("if", "flat", "flat"), [], Empty),
    (("if", "flat", "flat"), ["0"], WrongKind),
    (("if", "nowhere", "flat"), [1, 2], NoBlock),
    (("if", "flat", "nowhere"), [1, 0], NoBlock),
    # The number goes ahead of the block.
    (("if", "nowhere", "nowhere"), [], Empty),
    (("if", "nowhere", "nowhere"), [1, "a"], WrongKind),
)


class MachineCase(unittest.TestCase):

    def assert_stands(self, made, stack, frames):
        """The machine has that stack and those frames, and is over where none are left."""
        self.assertIs(type(made.stack), list)
        self.assertIs(type(made.frames), list)
        for frame in made.frames:
            self.assertIs(type(frame), tuple)
        self.assertEqual((made.stack, made.frames), (stack, frames))
        self.assertIs(made.over(), frames == [])

    def assert_goes(self, program, name, stack, states):
        """The machine goes through those states, from its beginning to its end."""
        before = copy.deepcopy((program, stack))
        made = Machine(program, name, stack)
        self.assert_stands(made, *states[0])
        for state in states[1:]:
            self.assertIsNone(made.step())
            self.assert_stands(made, *state)
        self.assertEqual((program, stack), before)

    def assert_refused(self, made, refusal):
        """The next step is refused, changes nothing, and is refused so again."""
        before = copy.deepcopy((made.stack, made.frames))
        for _ in range(3):
            with self.assertRaises(StackError) as caught:
                made.step()
            self.assertIs(type(caught.exception), refusal)
            self.assertEqual((made.stack, made.frames), before)
            self.assertIs(made.over(), False)


class Interface(unittest.TestCase):

    def test_defined_in_this_file(self):
        self.assertEqual(Machine.__module__, "stackproof.machine")
        self.assertEqual(run.__module__, "stackproof.machine")

    def test_methods_are_defined_in_the_class_itself(self):
        for name in ("step", "over"):
            self.assertIn(name, vars(Machine))

    def test_fields_are_set_on_the_object(self):
        made = Machine(FREE, "outer", [])
        for name in ("stack", "frames"):
            self.assertIn(name, vars(made))

    def test_arguments_have_the_names_told(self):
        self.assertEqual(Machine(program=FREE, name="outer", stack=[1]).stack, [1])
        self.assertEqual(run(program=FREE, name="outer", stack=[1], fuel=5), [1, "6"])


class Beginning(MachineCase):

    def test_the_stack_and_one_frame(self):
        self.assert_stands(Machine(FREE, "outer", []), [], [("outer", 0)])
        self.assert_stands(Machine(FREE, "outer", [1, "a"]), [1, "a"], [("outer", 0)])

    def test_a_block_without_rows_is_over_at_once(self):
        self.assert_stands(Machine(FREE, "flat", []), [], [])
        self.assert_stands(Machine(FREE, "flat", [1, "a"]), [1, "a"], [])

    def test_a_name_that_is_not_there(self):
        for program in ({}, FREE):
            for stack in ([], [1]):
                with self.assertRaises(NoBlock) as caught:
                    Machine(program, "nowhere", stack)
                self.assertIs(type(caught.exception), NoBlock)

    def test_what_its_rows_name_is_not_looked_at(self):
        self.assert_stands(Machine(FREE, "lost", []), [], [("lost", 0)])


class Steps(MachineCase):

    def test_plain_rows(self):
        self.assert_goes(FREE, "inner", ["a", 4], [
            (["a", 4], [("inner", 0)]),
            (["a", 4, 1], [("inner", 1)]),
            (["a", 5], []),
        ])

    def test_a_call(self):
        self.assert_goes(FREE, "outer", ["a"], [
            (["a"], [("outer", 0)]),
            (["a", 5], [("outer", 1)]),
            (["a", 5], [("outer", 2), ("inner", 0)]),
            (["a", 5, 1], [("outer", 2), ("inner", 1)]),
            (["a", 6], [("outer", 2)]),
            (["a", "6"], []),
        ])

    def test_several_frames_that_end_at_the_same_step(self):
        self.assert_goes(FREE, "lasts", [], [
            ([], [("lasts", 0)]),
            ([], [("lasts", 1), ("last", 0)]),
            ([5], [("lasts", 1), ("last", 1)]),
            ([5], [("lasts", 1), ("last", 2), ("inner", 0)]),
            ([5, 1], [("lasts", 1), ("last", 2), ("inner", 1)]),
            ([6], []),
        ])

    def test_a_call_of_a_block_without_rows(self):
        self.assert_goes(FREE, "flats", [1], [
            ([1], [("flats", 0)]),
            ([1], [("flats", 1)]),
            ([1], []),
        ])

    def test_a_call_takes_nothing_by_itself(self):
        for stack in ([], [1], ["a", "b"]):
            program = {"box": ((), (), [("call", "wants"), ("num", 1)]), "wants": (N * 9, N, [("num", 2)])}
            self.assert_goes(program, "box", stack, [
                (stack, [("box", 0)]),
                (stack, [("box", 1), ("wants", 0)]),
                (stack + [2], [("box", 1)]),
                (stack + [2, 1], []),
            ])

    def test_an_if_on_what_is_not_0(self):
        for number in (1, 2, 999999999):
            self.assert_goes(FREE, "choose", ["a", number], [
                (["a", number], [("choose", 0)]),
                (["a"], [("choose", 1), ("yes", 0)]),
                (["a", "yes"], [("choose", 1)]),
                (["a", 3], []),
            ])

    def test_an_if_on_0(self):
        self.assert_goes(FREE, "choose", [7, 0], [
            ([7, 0], [("choose", 0)]),
            ([7], [("choose", 1), ("no", 0)]),
            ([7, "no"], [("choose", 1), ("no", 1)]),
            ([7, "no", "none"], [("choose", 1)]),
            ([7, "no", 4], []),
        ])

    def test_the_other_block_of_an_if_is_not_looked_at(self):
        self.assert_goes(FREE, "half", [], [
            ([], [("half", 0)]),
            ([1], [("half", 1)]),
            ([], [("half", 2)]),
            ([0], [("half", 3)]),
            ([], []),
        ])

    def test_a_block_that_comes_to_itself(self):
        self.assert_goes(SUM, "sum", [1], [
            ([1], [("sum", 0)]),
            ([1, 1], [("sum", 1)]),
            ([1], [("sum", 2), ("more", 0)]),
            ([1, 1], [("sum", 2), ("more", 1)]),
            ([1, 1, 999999999], [("sum", 2), ("more", 2)]),
            ([1, 0], [("sum", 2), ("more", 3)]),
            ([1, 0], [("sum", 2), ("more", 4), ("sum", 0)]),
            ([1, 0, 0], [("sum", 2), ("more", 4), ("sum", 1)]),
            ([1, 0], [("sum", 2), ("more", 4)]),
            ([1], []),
        ])

    def test_each_plain_row_does_as_done(self):
        rows = EACH["each"][2]
        stack = [3, "abc", 12]
        made = Machine(EACH, "each", stack)
        for at, row in enumerate(rows):
            self.assert_stands(made, stack, [("each", at)])
            stack = done(stack, row)
            made.step()
        self.assert_stands(made, stack, [])

    def test_frames_stay_as_long_as_one_is_behind_them(self):
        made = Machine(FREE, "on", [])
        for many in range(50):
            self.assert_stands(made, [], [("on", 1)] * many + [("on", 0)])
            made.step()

    def test_a_machine_that_is_over(self):
        for stack in ([], [1, "a"]):
            made = Machine(FREE, "flat", stack)
            for _ in range(3):
                self.assertIsNone(made.step())
                self.assert_stands(made, stack, [])
        made = Machine(FREE, "inner", [4])
        for _ in range(5):
            made.step()
        self.assert_stands(made, [5], [])


class Refusals(MachineCase):

    def test_at_the_first_row(self):
        for row, stack, refusal in REFUSED:
            with self.subTest(row=row, stack=stack):
                made = Machine({"box": ((), (), [row]), "flat": ((), (), [])}, "box", stack)
                self.assert_refused(made, refusal)
                self.assert_stands(made, stack, [("box", 0)])

    def test_in_an_inner_block(self):
        for row, stack, refusal in REFUSED:
            with self.subTest(row=row, stack=stack):
                program = {
                    "top": ((), (), [("call", "box"), ("num", 1)]),
                    "box": ((), (), [("num", 1), ("drop",), row, ("num", 1)]),
                    "flat": ((), (), []),
                }
                made = Machine(program, "top", stack)
                for _ in range(3):
                    made.step()
                self.assert_refused(made, refusal)
                self.assert_stands(made, stack, [("top", 1), ("box", 2)])

    def test_what_lies_beneath_is_taken_where_it_is_there(self):
        made = Machine(FREE, "add", [1, 2])
        made.step()
        self.assert_stands(made, [3], [])

    def test_a_step_after_the_stack_was_mended(self):
        made = Machine(FREE, "add", [1])
        self.assert_refused(made, Empty)
        made.stack.append(2)
        made.step()
        self.assert_stands(made, [3], [])


class OwnStack(MachineCase):

    def test_a_machine_does_not_change_what_is_handed_in(self):
        for program, name, stacks in LET_BY:
            for stack in stacks:
                before = copy.deepcopy((program, stack))
                run(program, name, stack, 5000)
                self.assertEqual((program, stack), before)

    def test_a_change_of_what_was_handed_in_does_not_reach_the_machine(self):
        for name in ("flat", "inner"):
            stack = [1, 2]
            made = Machine(FREE, name, stack)
            stack.append("changed")
            stack[0] = "changed"
            self.assertEqual(made.stack, [1, 2])

    def test_a_change_of_the_machine_does_not_reach_what_was_handed_in(self):
        stack = [1, 2]
        made = Machine(FREE, "flat", stack)
        made.stack.append(3)
        self.assertEqual(stack, [1, 2])

    def test_a_change_of_an_answer_stays_there(self):
        for name in ("flat", "inner"):
            stack = [1, 2]
            answer = run(FREE, name, stack, 9)
            answer.append("changed")
            answer[0] = "changed"
            self.assertEqual(stack, [1, 2])

    def test_two_machines_do_not_touch_each_other(self):
        stack = [1]
        one, other = Machine(FREE, "inner", stack), Machine(FREE, "inner", stack)
        one.step()
        self.assert_stands(other, [1], [("inner", 0)])
        one.step()
        other.step()
        self.assert_stands(one, [2], [])
        self.assert_stands(other, [1, 1], [("inner", 1)])


class Runs(unittest.TestCase):

    def assert_runs(self, program, name, stack, answer, steps):
        """The run tells that, with just so many steps and with more, and is dry with fewer."""
        for fuel in (steps, steps + 1, steps + 1000):
            told = run(program, name, stack, fuel)
            self.assertIs(type(told), list)
            self.assertEqual(told, answer)
        for fuel in range(steps):
            self.assert_refused(program, name, stack, fuel, Dry)

    def assert_refused(self, program, name, stack, fuel, refusal):
        before = copy.deepcopy((program, stack))
        with self.assertRaises(StackError) as caught:
            run(program, name, stack, fuel)
        self.assertIs(type(caught.exception), refusal)
        self.assertEqual((program, stack), before)

    def test_fuel_that_is_just_enough(self):
        self.assert_runs(FREE, "inner", [4], [5], 2)
        self.assert_runs(FREE, "outer", ["a"], ["a", "6"], 5)
        self.assert_runs(FREE, "lasts", [], [6], 5)
        self.assert_runs(FREE, "flats", [1], [1], 2)
        self.assert_runs(FREE, "choose", ["a", 3], ["a", 3], 3)

    def test_a_block_without_rows(self):
        self.assert_runs(FREE, "flat", [], [], 0)
        self.assert_runs(FREE, "flat", [1, "a"], [1, "a"], 0)

    def test_blocks_that_come_to_themselves(self):
        self.assert_runs(SUM, "sum", [0], [0], 2)
        self.assert_runs(SUM, "sum", ["a", 5], ["a", 15], 37)
        self.assert_runs(DOWN, "down", ["a", 3], ["a"], 18)
        self.assert_runs(EVEN, "even", [4], ["even"], 24)
        self.assert_runs(EVEN, "even", [5], ["odd"], 29)

    def test_a_program_of_texts(self):
        self.assertEqual(run(TELL, "tell", ["abc"], 99), ["abc3:  signs"])
        self.assertEqual(run(TELL, "tell", [""], 99), ["nothing"])

    def test_a_name_that_is_not_there(self):
        for fuel in (0, 1, 99):
            self.assert_refused({}, "nowhere", [], fuel, NoBlock)
            self.assert_refused(FREE, "nowhere", [1], fuel, NoBlock)

    def test_a_refusal_within_the_fuel_goes_first(self):
        for row, stack, refusal in REFUSED:
            with self.subTest(row=row, stack=stack):
                program = {"box": ((), (), [("num", 1), ("drop",), row]), "flat": ((), (), [])}
                for fuel in (3, 4, 99):
                    self.assert_refused(program, "box", stack, fuel, refusal)
                for fuel in (0, 1, 2):
                    self.assert_refused(program, "box", stack, fuel, Dry)

    def test_a_run_without_an_end(self):
        for fuel in (0, 1, 5000):
            self.assert_refused(FREE, "on", [], fuel, Dry)
            self.assert_refused(circle(60), "0", [], fuel, Dry)

    def test_a_fuel_that_is_far_more_than_enough(self):
        self.assertEqual(run(FREE, "inner", [4], 10 ** 30), [5])


class Far(MachineCase):
    """Many frames, long chains, long blocks."""

    def test_many_frames(self):
        made = Machine(SUM, "sum", [900])
        most = 0
        while not made.over():
            most = max(most, len(made.frames))
            made.step()
        self.assertEqual(most, 1801)
        self.assertEqual(made.stack, [405450])

    def test_many_frames_that_end_at_the_same_step(self):
        made = Machine(DOWN, "down", ["a", 900])
        most = 0
        while not made.over():
            most = len(made.frames)
            made.step()
        self.assertEqual(most, 1802)
        self.assertEqual(made.stack, ["a"])

    def test_many_frames_without_an_end(self):
        made = Machine(FREE, "round", [])
        for _ in range(6000):
            made.step()
        self.assert_stands(made, [1] * 3000, [("round", 2)] * 3000 + [("round", 0)])

    def test_a_long_chain(self):
        for many in (60, 150):
            self.assertEqual(run(chain(many), "0", [1], many + 1), [2])
        self.assertEqual(run(chain(12, 2), "0", [1], 20000), [2049])

    def test_a_block_with_a_thousand_rows(self):
        program = {"box": ((), (), [("num", 1)] * 500 + [("drop",)] * 500)}
        self.assertEqual(run(program, "box", ["a"], 1000), ["a"])

    def test_much_beneath(self):
        beneath = ["a"] * 100000
        self.assertEqual(run(SUM, "sum", beneath + [500], 5000), beneath + [125250])


if __name__ == "__main__":
    unittest.main()
