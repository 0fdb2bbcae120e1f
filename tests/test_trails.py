"""Trails and faults of blocks, whether a list is a trail, which blocks are let by, and heights."""

import copy
import itertools
import unittest

from stackproof import trails
from stackproof.kinds import behind
from stackproof.trails import fault, height, holds, let_by, trail_of
from tests.programs import (
    DOWN, EACH, EVEN, LET_BY, NUM, SUM, TELL, TEXT, chain, circle, some_program,
)

N, T = (NUM,), (TEXT,)

# Blocks without a fault, and their trails.
TRAILS = (
    (((), (), []), [()]),
    ((N, N, []), [N]),
    ((T + N, T + N, []), [T + N]),
    (((), N, [("num", 1)]), [(), N]),
    ((N, (), [("drop",)]), [N, ()]),
    ((N + N, N, [("add",)]), [N + N, N]),
    ((T, N + T, [("copy", 0), ("long",), ("swap",)]), [T, T + T, T + N, N + T]),
    ((N, T, [("show",), ("text", "a"), ("join",)]), [N, T, T + T, T]),
    ((N, T + N, [("call", "up")]), [N, T + N]),
    ((N + N + N, N + T + N, [("if", "up", "other")]), [N + N + N, N + T + N]),
    ((T, T, [("call", "flat"), ("call", "flat")]), [T, T, T]),
    ((N, N, [("call", "bad"), ("call", "down")]), [N, T, N]),
)

# What the blocks above and below can name. The first two tell the same, "bad"
# has a fault of its own, and so has "lost", which names a block that is not there.
HELP = {
    "up": (N, T + N, [("show",), ("num", 1)]),
    "other": (N, T + N, [("drop",), ("text", ""), ("num", 2)]),
    "down": (T, N, [("long",)]),
    "flat": ((), (), []),
    "bad": (N, T, [("add",)]),
    "lost": (N, N, [("call", "nowhere")]),
}

# Blocks with a fault, and the fault.
FAULTS = (
    (((), (), [("drop",)]), (0, "empty")),
    ((N, (), [("add",), ("drop",)]), (0, "empty")),
    ((N, N, [("num", 1), ("add",), ("add",)]), (2, "empty")),
    ((N, N, [("copy", 1)]), (0, "empty")),
    ((T, T, [("call", "flat"), ("call", "up")]), (1, "kind")),
    (((), (), [("call", "up")]), (0, "empty")),
    (((), (), [("num", 1), ("if", "up", "up")]), (1, "empty")),
    (((), (), [("if", "nowhere", "up")]), (0, "empty")),
    ((T, N, [("show",)]), (0, "kind")),
    ((N, N, [("num", 1), ("add",), ("long",)]), (2, "kind")),
    ((T, N, [("if", "flat", "flat")]), (0, "kind")),
    ((T + N, N, [("if", "up", "other")]), (0, "kind")),
    ((N, N, [("call", "nowhere")]), (0, "block")),
    ((N, N, [("num", 1), ("drop",), ("call", "nowhere")]), (2, "block")),
    ((N, N, [("if", "nowhere", "flat")]), (0, "block")),
    ((N, N, [("if", "flat", "nowhere")]), (0, "block")),
    ((N, N, [("if", "flat", "up")]), (0, "apart")),
    ((N, N, [("show",), ("long",), ("if", "up", "down")]), (2, "apart")),
    (((), N, []), (0, "end")),
    ((N, (), []), (0, "end")),
    ((N, T, []), (0, "end")),
    ((T + N, N + T, []), (0, "end")),
    ((N, N, [("show",)]), (1, "end")),
    ((N, N, [("num", 1)]), (1, "end")),
    ((N, N, [("drop",)]), (1, "end")),
    ((N, N + T, [("call", "up"), ("call", "flat")]), (2, "end")),
    # The first one of several.
    ((N, N, [("show",), ("show",), ("add",), ("call", "nowhere")]), (1, "kind")),
    ((T, N, [("call", "nowhere"), ("add",)]), (0, "block")),
    ((N, N, [("show",), ("add",)]), (1, "empty")),
)


def with_help(block):
    program = dict(HELP)
    program["box"] = block
    return program


def rows_changed(trail):
    """Lists that are near a trail and none of it."""
    found = [[], trail + [trail[-1]], trail + [()], [trail[0]] + trail, trail[:-1], trail[1:]]
    for at, kinds in enumerate(trail):
        found.append(trail[:at] + trail[at + 1:])
        found.append(trail[:at + 1] + trail[at:])
        for other in (kinds + N, kinds + T, N + kinds, T + kinds, kinds[:-1], kinds[1:], kinds[::-1], (), N, T):
            found.append(trail[:at] + [other] + trail[at + 1:])
    for one, other in itertools.combinations(range(len(trail)), 2):
        near = list(trail)
        near[one], near[other] = trail[other], trail[one]
        found.append(near)
    found.append(trail[::-1])
    for beneath in (N, T):
        found.append([beneath + kinds for kinds in trail])
    return [near for near in found if near != trail]


class TrailCase(unittest.TestCase):

    def setUp(self):
        self.before = []

    def kept(self, program):
        """The program, which has to be the same behind the test."""
        self.before.append((program, copy.deepcopy(program)))
        return program

    def tearDown(self):
        for program, before in self.before:
            self.assertEqual(program, before)


class Interface(unittest.TestCase):

    def test_functions_are_defined_in_this_file(self):
        for name in ("trail_of", "fault", "holds", "let_by", "height"):
            self.assertEqual(getattr(trails, name).__module__, "stackproof.trails")

    def test_arguments_have_the_names_told(self):
        program = {"box": (N, N, [])}
        self.assertEqual(trail_of(program=program, name="box"), [N])
        self.assertIsNone(fault(program=program, name="box"))
        self.assertIs(holds(program=program, name="box", trail=[N]), True)
        self.assertIs(let_by(program=program, name="box"), True)
        self.assertEqual(height(program=program, name="box"), 1)


class Trails(TrailCase):

    def test_blocks_without_a_fault(self):
        for block, trail in TRAILS:
            with self.subTest(block=block):
                program = self.kept(with_help(block))
                answer = trail_of(program, "box")
                self.assertEqual(answer, trail)
                self.assertIs(type(answer), list)
                for kinds in answer:
                    self.assertIs(type(kinds), tuple)
                self.assertIsNone(fault(program, "box"))

    def test_blocks_with_a_fault(self):
        for block, told in FAULTS:
            with self.subTest(block=block):
                program = self.kept(with_help(block))
                answer = fault(program, "box")
                self.assertEqual(answer, told)
                self.assertIs(type(answer), tuple)
                self.assertIsNone(trail_of(program, "box"))

    def test_each_word_is_told(self):
        self.assertEqual({told[1] for _, told in FAULTS}, {"empty", "kind", "block", "apart", "end"})

    def test_only_what_other_blocks_tell_counts(self):
        program = self.kept({"box": (N, N, [("call", "low")]), "low": (N, N, [("drop",), ("drop",)])})
        self.assertIsNone(fault(program, "box"))
        self.assertEqual(trail_of(program, "box"), [N, N])
        self.assertEqual(fault(program, "low"), (1, "empty"))
        self.assertIsNone(trail_of(program, "low"))

    def test_blocks_that_come_to_themselves(self):
        for program in (SUM, DOWN, EVEN):
            for name in program:
                self.assertIsNone(fault(self.kept(program), name))
        self.assertEqual(trail_of(SUM, "more"), [N, N + N, N + N + N, N + N, N + N, N])
        self.assertEqual(trail_of(SUM, "sum"), [N, N + N, N])
        program = self.kept({"box": (N, T, [("call", "box"), ("call", "box")])})
        self.assertEqual(fault(program, "box"), (1, "kind"))

    def test_a_change_of_an_answer_stays_there(self):
        program = self.kept(with_help((N, N, [("show",), ("long",)])))
        answer = trail_of(program, "box")
        answer[0] = "changed"
        answer.append("changed")
        self.assertEqual(trail_of(program, "box"), [N, T, N])

    def test_a_thousand_rows_and_more(self):
        for many in (500, 700):
            rows = [("num", 1)] * many + [("drop",)] * many
            program = {"box": ((), (), rows), "bad": ((), (), rows + [("drop",)]), "more": ((), N, rows)}
            heights = list(range(many)) + list(range(many, -1, -1))
            self.assertEqual(trail_of(program, "box"), [N * size for size in heights])
            self.assertEqual(fault(program, "bad"), (2 * many, "empty"))
            self.assertEqual(fault(program, "more"), (2 * many, "end"))

    def test_many_kinds(self):
        program = {
            "up": ((), N * 60, [("num", 1)] * 60),
            "down": (N * 60, (), [("drop",)] * 60),
            "box": (N * 60, N * 60, [("call", "up")] * 400 + [("call", "down")] * 400),
            "wide": (T * 90, T * 90, []),
        }
        for name in program:
            self.assertIsNone(fault(program, name))
        self.assertEqual(trail_of(program, "box")[400], N * 60 * 401)
        self.assertEqual(trail_of(program, "wide"), [T * 90])


class Holds(TrailCase):

    def test_the_trail_itself(self):
        for block, trail in TRAILS:
            with self.subTest(block=block):
                before = list(trail)
                self.assertIs(holds(self.kept(with_help(block)), "box", trail), True)
                self.assertEqual(trail, before)

    def test_what_is_near_a_trail(self):
        for block, trail in TRAILS:
            for near in rows_changed(trail):
                with self.subTest(block=block, near=near):
                    before = list(near)
                    self.assertIs(holds(self.kept(with_help(block)), "box", near), False)
                    self.assertEqual(near, before)

    def test_what_is_near_a_longer_trail(self):
        for program, _, _ in LET_BY:
            for name in program:
                trail = trail_of(program, name)
                self.assertIs(holds(program, name, trail), True)
                for near in rows_changed(trail):
                    self.assertIs(holds(program, name, near), False)

    def test_no_list_for_a_block_with_a_fault(self):
        for block, told in FAULTS:
            program = self.kept(with_help(block))
            ins, outs, rows = block
            so_far = [ins]
            for row in rows[:told[0]]:
                so_far.append(behind(program, so_far[-1], row))
            lists = [[], [ins], [outs], [ins, outs], so_far, so_far + [outs], so_far[:-1] + [outs]]
            lists.append(so_far + [outs] * (len(rows) + 1 - len(so_far)))
            for near in lists + rows_changed(so_far):
                with self.subTest(block=block, near=near):
                    self.assertIs(holds(program, "box", near), False)

    def test_all_lists_of_short_tuples(self):
        """Of all such lists just the trail holds."""
        tuples = [kinds for many in range(3) for kinds in itertools.product((NUM, TEXT), repeat=many)]
        block = (T, N, [("copy", 0), ("drop",), ("long",)])
        program = self.kept(with_help(block))
        held = [
            list(near) for many in range(5) for near in itertools.product(tuples, repeat=many)
            if holds(program, "box", list(near))
        ]
        self.assertEqual(held, [[T, T + T, T, N]])

    def test_a_thousand_rows(self):
        rows = [("num", 1)] * 500 + [("drop",)] * 500
        program = {"box": ((), (), rows)}
        trail = trail_of(program, "box")
        self.assertIs(holds(program, "box", trail), True)
        for at in (0, 1, 499, 500, 501, 999, 1000):
            near = list(trail)
            near[at] = near[at][:-1] + T
            self.assertIs(holds(program, "box", near), False)


class LetBy(TrailCase):

    def assert_let_by(self, program, names):
        """Of the program just these blocks are let by."""
        self.kept(program)
        for name in program:
            with self.subTest(name=name):
                self.assertIs(let_by(program, name), name in names)

    def test_a_name_that_is_not_there(self):
        self.assertIs(let_by({}, "box"), False)
        self.assertIs(let_by(self.kept(SUM), "box"), False)
        self.assertIs(let_by({"box": (N, N, [("call", "nowhere")])}, "nowhere"), False)

    def test_blocks_by_themselves(self):
        for block, _ in FAULTS:
            with self.subTest(block=block):
                self.assertIs(let_by(self.kept(with_help(block)), "box"), False)
        self.assert_let_by(with_help(((), (), [])), ("box", "up", "other", "down", "flat"))

    def test_a_fault_further_on(self):
        self.assert_let_by({
            "first": (N, N, [("call", "second")]),
            "second": (N, N, [("if", "flat", "third"), ("num", 1)]),
            "third": ((), (), [("call", "bad")]),
            "bad": ((), (), [("drop",)]),
            "flat": ((), (), []),
            "beside": (N, N, [("if", "flat", "flat"), ("num", 1)]),
        }, ("flat", "beside"))

    def test_each_block_that_an_if_names_counts(self):
        for rows in ([("if", "bad", "flat")], [("if", "flat", "bad")]):
            program = {"box": (N, (), rows), "bad": ((), (), [("drop",)]), "flat": ((), (), [])}
            self.assert_let_by(program, ("flat",))

    def test_a_block_further_on_that_is_not_there(self):
        self.assert_let_by({
            "first": ((), (), [("call", "second")]),
            "second": ((), (), [("call", "third")]),
            "third": ((), (), [("call", "nowhere")]),
            "flat": ((), (), []),
        }, ("flat",))

    def test_a_fault_at_the_end_counts_further_on(self):
        self.assert_let_by({"box": ((), N, [("call", "bad")]), "bad": ((), N, [])}, ())

    def test_blocks_that_come_to_themselves(self):
        for program in (SUM, DOWN, EVEN, circle(1), circle(2), circle(60), circle(150)):
            self.assert_let_by(program, program)
        self.assert_let_by({"box": ((), (), [("call", "box"), ("drop",)])}, ())

    def test_a_circle_with_a_fault(self):
        program = circle(60)
        program["59"] = ((), (), [("call", "0"), ("drop",)])
        program["flat"] = ((), (), [])
        self.assert_let_by(program, ("flat",))

    def test_a_circle_that_leads_to_a_fault(self):
        program = circle(3)
        program["1"] = ((), (), [("call", "2"), ("num", 1), ("if", "flat", "bad")])
        program["bad"] = ((), N, [])
        program["flat"] = ((), (), [])
        self.assert_let_by(program, ("flat",))

    def test_long_chains(self):
        for many in (60, 150):
            program = chain(many, 2)
            self.assertIs(let_by(program, "0"), True)
            program[str(many - 1)] = (N, N, [("num", 1)])
            self.assertIs(let_by(program, "0"), False)
            self.assertIs(let_by(program, str(many - 2)), False)

    def test_long_blocks_in_a_long_chain(self):
        program = chain(60, 1000)
        self.assertIs(let_by(program, "0"), True)
        program["59"] = (N, N, [("num", 1)] * 999)
        self.assertIs(let_by(program, "0"), False)

    def test_programs_by_seeds(self):
        """Programs that are let by; not so where one block has other outs."""
        for seed in range(40):
            program = some_program(seed)
            for name in program:
                with self.subTest(seed=seed, name=name):
                    self.assertIs(let_by(program, name), True)
                    self.assertEqual(len(trail_of(program, name)), len(program[name][2]) + 1)
            for bad, (ins, outs, rows) in list(program.items()):
                program[bad] = (ins, outs, rows + [("num", 1)])
                for name in program:
                    with self.subTest(seed=seed, name=name, bad=bad):
                        self.assertIs(let_by(program, name), not comes_to(program, name, bad))
                program[bad] = (ins, outs, rows)


def comes_to(program, name, other):
    """Whether a block is that other one or can come to it."""
    reached = {name}
    for _ in program:
        for each in sorted(reached):
            reached.update(part for row in program[each][2] if row[0] in ("call", "if") for part in row[1:])
    return other in reached


class Heights(TrailCase):

    def assert_height(self, program, heights):
        self.kept(program)
        for name, meant in heights.items():
            with self.subTest(name=name):
                self.assertEqual(height(program, name), meant)

    def test_blocks_by_themselves(self):
        self.assert_height({
            "flat": ((), (), []),
            "ins": (N * 3, N * 3, []),
            "first": (N * 3, (), [("drop",), ("drop",), ("drop",)]),
            "last": ((), N * 2, [("num", 1), ("num", 1)]),
            "middle": (N, N, [("copy", 0), ("copy", 0), ("copy", 0), ("add",), ("add",), ("add",)]),
            "wide": (N * 70, N * 70, [("copy", 69), ("drop",)]),
        }, {"flat": 0, "ins": 3, "first": 3, "last": 2, "middle": 4, "wide": 71})

    def test_calls(self):
        self.assert_height({
            "high": (N, N, [("num", 1), ("num", 2), ("num", 3), ("add",), ("add",), ("add",)]),
            "alone": (N, N, [("call", "high")]),
            "on two": (N, N, [("copy", 0), ("copy", 0), ("call", "high"), ("add",), ("add",)]),
            "low call": (N, N, [("call", "high"), ("num", 1), ("num", 1), ("num", 1), ("num", 1)] + [("add",)] * 4),
            "twice": (N, N, [("call", "high"), ("num", 1), ("call", "high"), ("add",)]),
            "behind": (N, N, [("num", 1), ("call", "high"), ("add",), ("call", "high")]),
            "far": (N, N, [("num", 1), ("call", "on two"), ("add",)]),
        }, {"high": 4, "alone": 4, "on two": 6, "low call": 5, "twice": 5, "behind": 5, "far": 7})

    def test_a_call_with_empty_ins_or_outs(self):
        self.assert_height({
            "up and off": ((), (), [("num", 1), ("num", 1), ("drop",), ("drop",)]),
            "off": (N * 2, (), [("drop",), ("drop",)]),
            "box": (N, N, [("call", "up and off")]),
            "boxes": (T, T, [("num", 1), ("num", 1), ("call", "off")]),
        }, {"up and off": 2, "box": 3, "boxes": 3})

    def test_ifs(self):
        blocks = {
            "high": (N, N, [("num", 1), ("num", 2), ("num", 3), ("add",), ("add",), ("add",)]),
            "low": (N, N, []),
        }
        self.assert_height({
            "yes": (N, N, [("copy", 0), ("if", "high", "low")]),
            "no": (N, N, [("copy", 0), ("if", "low", "high")]),
            "none": (N, N, [("copy", 0), ("if", "low", "low")]),
            "both": (N, N, [("num", 1), ("num", 0), ("if", "high", "high"), ("add",)]),
            "far": (N, N, [("num", 1), ("num", 0), ("if", "low", "yes"), ("add",)]),
            **blocks,
        }, {"yes": 4, "no": 4, "none": 2, "both": 5, "far": 5, "low": 1})

    def test_programs_without_a_circle(self):
        self.assert_height(TELL, {"flat": 0, "pair": 3, "none": 1, "count": 3, "tell": 4})
        self.assert_height(EACH, {"each": 4})

    def test_blocks_that_come_to_themselves(self):
        self.assert_height(SUM, {"sum": None, "more": None, "same": 1})
        self.assert_height(DOWN, {"down": None, "again": None, "gone": 1})
        self.assert_height(EVEN, {"even": None, "odd less one": None, "is odd": 1})
        for many in (1, 2, 60, 150):
            self.assert_height(circle(many), {str(at): None for at in range(many)})

    def test_blocks_that_lead_to_a_circle(self):
        program = circle(3)
        program["box"] = ((), N, [("num", 1), ("num", 1), ("if", "flat", "1")])
        program["over"] = (N, (), [("if", "flat", "flat"), ("call", "box"), ("drop",)])
        program["beside"] = (N, (), [("if", "flat", "flat")])
        program["flat"] = ((), (), [])
        self.assert_height(program, {"0": None, "box": None, "over": None, "beside": 1, "flat": 0})

    def test_the_way_there_does_not_count(self):
        """A block that is named along several ways is no circle."""
        self.assert_height({
            "top": (N, N, [("call", "left"), ("call", "right")]),
            "left": (N, N, [("call", "low")]),
            "right": (N, N, [("call", "left"), ("call", "low")]),
            "low": (N, N, [("copy", 0), ("add",)]),
        }, {"top": 2, "left": 2, "right": 2, "low": 2})

    def test_long_chains(self):
        for many in (60, 150):
            self.assert_height(chain(many, 2), {"0": 2, str(many - 1): 2})
            program = chain(many)
            for at in range(many - 1):
                call = [("num", 1), ("call", str(at + 1)), ("add",)]
                program[str(at)] = (N, N, call + call)
            self.assert_height(program, {"0": many + 1, str(many - 2): 3, str(many - 1): 2})

    def test_long_blocks_in_a_long_chain(self):
        self.assert_height(chain(60, 1000), {"0": 2})


if __name__ == "__main__":
    unittest.main()
