"""What is behind a row, told by kinds alone."""

import copy
import itertools
import unittest

from stackproof.errors import Apart, Empty, NoBlock, StackError, WrongKind
from stackproof.kinds import behind
from stackproof.rows import done, kinds_of
from tests.programs import NUM, PLAIN, TEXT, some_values

BENEATH = ((), (NUM,), (TEXT,), (TEXT, NUM), (NUM, TEXT, TEXT))

# Each plain row: kinds that it takes, kinds that it puts.
PUTS = (
    (("num", 0), (), (NUM,)),
    (("text", ""), (), (TEXT,)),
    (("text", "12"), (), (TEXT,)),
    (("add",), (NUM, NUM), (NUM,)),
    (("mul",), (NUM, NUM), (NUM,)),
    (("less",), (NUM, NUM), (NUM,)),
    (("join",), (TEXT, TEXT), (TEXT,)),
    (("long",), (TEXT,), (NUM,)),
    (("show",), (NUM,), (TEXT,)),
    (("swap",), (NUM, TEXT), (TEXT, NUM)),
    (("swap",), (TEXT, NUM), (NUM, TEXT)),
    (("swap",), (NUM, NUM), (NUM, NUM)),
    (("drop",), (NUM,), ()),
    (("drop",), (TEXT,), ()),
    (("copy", 0), (NUM,), (NUM, NUM)),
    (("copy", 0), (TEXT,), (TEXT, TEXT)),
    (("copy", 1), (TEXT, NUM), (TEXT, NUM, TEXT)),
    (("copy", 2), (NUM, TEXT, TEXT), (NUM, TEXT, TEXT, NUM)),
    (("copy", 60), (TEXT,) + (NUM,) * 60, (TEXT,) + (NUM,) * 60 + (TEXT,)),
)

# Each plain row that can be refused: kinds that are too few, kinds that are wrong.
REFUSED = (
    (("add",), [(), (NUM,), (TEXT,)], [(NUM, TEXT), (TEXT, NUM), (TEXT, TEXT)]),
    (("mul",), [(), (NUM,), (TEXT,)], [(NUM, TEXT), (TEXT, NUM), (TEXT, TEXT)]),
    (("less",), [(), (NUM,), (TEXT,)], [(NUM, TEXT), (TEXT, NUM), (TEXT, TEXT)]),
    (("join",), [(), (NUM,), (TEXT,)], [(NUM, TEXT), (TEXT, NUM), (NUM, NUM)]),
    (("long",), [()], [(NUM,), (TEXT, NUM)]),
    (("show",), [()], [(TEXT,), (NUM, TEXT)]),
    (("swap",), [(), (NUM,), (TEXT,)], []),
    (("drop",), [()], []),
    (("copy", 0), [()], []),
    (("copy", 1), [(), (TEXT,)], []),
    (("copy", 60), [(), (NUM,) * 60], []),
)

# Blocks are known here by what they tell; their rows are all but that.
TOLD = {
    "none": ((), (), [("add",)]),
    "take": ((TEXT, NUM), (), [("add",)]),
    "give": ((), (NUM, TEXT), [("add",)]),
    "turn": ((TEXT, NUM), (NUM, NUM, TEXT), [("call", "nowhere")]),
    "same": ((TEXT, NUM), (NUM, NUM, TEXT), []),
    "ins": ((TEXT, TEXT), (NUM, NUM, TEXT), []),
    "outs": ((TEXT, NUM), (NUM, TEXT, TEXT), []),
    "fewer": ((NUM,), (NUM, NUM, TEXT), []),
    "moved": ((TEXT,), (NUM, NUM, NUM, TEXT), []),
    "more": ((TEXT, NUM, NUM), (NUM, TEXT), []),
    "long": ((NUM,) * 60, (TEXT,) * 60, []),
}


class KindsCase(unittest.TestCase):

    def assert_behind(self, kinds, row, answer, program=TOLD):
        """The row leads there, whatever lies beneath, and changes nothing."""
        for beneath in BENEATH:
            before = copy.deepcopy(program)
            told = behind(program, beneath + kinds, row)
            self.assertIs(type(told), tuple)
            self.assertEqual(told, beneath + answer)
            self.assertEqual(program, before)

    def assert_refused(self, kinds, row, refusal, program=TOLD):
        before = copy.deepcopy(program)
        with self.assertRaises(StackError) as caught:
            behind(program, kinds, row)
        self.assertIs(type(caught.exception), refusal)
        self.assertEqual(program, before)


class Interface(unittest.TestCase):

    def test_the_function_is_defined_in_this_file(self):
        self.assertEqual(behind.__module__, "stackproof.kinds")

    def test_arguments_have_the_names_told(self):
        self.assertEqual(behind(program={}, kinds=(NUM,), row=("drop",)), ())


class PlainRows(KindsCase):

    def test_kinds_put(self):
        for row, taken, put in PUTS:
            with self.subTest(row=row, taken=taken):
                self.assert_behind(taken, row, put)
                self.assert_behind(taken, row, put, {})

    def test_too_few_kinds(self):
        for row, few, _ in REFUSED:
            for kinds in few:
                with self.subTest(row=row, kinds=kinds):
                    self.assert_refused(kinds, row, Empty)

    def test_wrong_kinds(self):
        for row, _, wrong in REFUSED:
            for kinds in wrong:
                for beneath in BENEATH:
                    with self.subTest(row=row, kinds=kinds, beneath=beneath):
                        self.assert_refused(beneath + kinds, row, WrongKind)

    def test_as_on_values(self):
        """Each row on all stacks of up to three values leads where its values do, or is refused alike."""
        for many in range(4):
            for kinds in itertools.product((NUM, TEXT), repeat=many):
                for row in PLAIN:
                    with self.subTest(row=row, kinds=kinds):
                        try:
                            answer = kinds_of(done(some_values(kinds), row))
                        except StackError as refusal:
                            self.assert_refused(kinds, row, type(refusal))
                        else:
                            self.assertEqual(behind({}, kinds, row), answer)

    def test_copy_beyond_the_limit(self):
        self.assert_behind((TEXT,) + (NUM,) * 70, ("copy", 70), (TEXT,) + (NUM,) * 70 + (TEXT,))
        self.assert_refused((NUM,) * 70, ("copy", 70), Empty)


class Calls(KindsCase):

    def test_outs_stand_in_the_place_of_ins(self):
        self.assert_behind((TEXT, NUM), ("call", "turn"), (NUM, NUM, TEXT))

    def test_ins_and_outs_that_are_empty(self):
        self.assert_behind((), ("call", "none"), ())
        self.assert_behind((), ("call", "give"), (NUM, TEXT))
        self.assert_behind((TEXT, NUM), ("call", "take"), ())

    def test_sixty_kinds_and_more(self):
        self.assert_behind((NUM,) * 60, ("call", "long"), (TEXT,) * 60)
        self.assert_refused((NUM,) * 59, ("call", "long"), Empty)
        self.assert_refused((TEXT,) + (NUM,) * 59, ("call", "long"), WrongKind)
        self.assert_refused((NUM,) * 59 + (TEXT,), ("call", "long"), WrongKind)
        wide = {"wide": ((NUM,) * 75, (TEXT,) * 80, [])}
        self.assert_behind((NUM,) * 75, ("call", "wide"), (TEXT,) * 80, wide)

    def test_a_block_that_is_not_there(self):
        for kinds in BENEATH:
            self.assert_refused(kinds, ("call", "nowhere"), NoBlock)
            self.assert_refused(kinds, ("call", "none"), NoBlock, {})

    def test_too_few_kinds(self):
        for kinds in ((), (NUM,), (TEXT,)):
            self.assert_refused(kinds, ("call", "turn"), Empty)

    def test_wrong_kinds(self):
        for kinds in ((NUM, NUM), (TEXT, TEXT), (NUM, TEXT), (TEXT, NUM, TEXT), (TEXT, NUM, NUM)):
            self.assert_refused(kinds, ("call", "turn"), WrongKind)

    def test_only_what_a_block_tells_counts(self):
        for rows in ([], [("add",)], [("call", "nowhere")], [("call", "box")]):
            program = {"box": ((NUM,), (TEXT,), rows)}
            self.assert_behind((NUM,), ("call", "box"), (TEXT,), program)


class Ifs(KindsCase):

    def test_takes_the_number_and_is_as_a_call(self):
        self.assert_behind((TEXT, NUM, NUM), ("if", "turn", "same"), (NUM, NUM, TEXT))
        self.assert_behind((TEXT, NUM, NUM), ("if", "same", "turn"), (NUM, NUM, TEXT))
        self.assert_behind((TEXT, NUM, NUM), ("if", "turn", "turn"), (NUM, NUM, TEXT))

    def test_ins_and_outs_that_are_empty(self):
        self.assert_behind((NUM,), ("if", "none", "none"), ())
        self.assert_behind((NUM,), ("if", "give", "give"), (NUM, TEXT))
        self.assert_behind((TEXT, NUM, NUM), ("if", "take", "take"), ())

    def test_without_a_number(self):
        self.assert_refused((), ("if", "none", "none"), Empty)
        self.assert_refused((TEXT,), ("if", "none", "none"), WrongKind)
        self.assert_refused((NUM, TEXT), ("if", "none", "none"), WrongKind)

    def test_a_block_that_is_not_there(self):
        for yes, no in (("nowhere", "none"), ("none", "nowhere"), ("nowhere", "nowhere"), ("nowhere", "elsewhere")):
            self.assert_refused((NUM,), ("if", yes, no), NoBlock)

    def test_blocks_that_tell_other_ins_or_outs(self):
        for other in ("none", "take", "ins", "outs", "fewer", "moved", "more"):
            self.assert_refused((TEXT, NUM, NUM), ("if", "turn", other), Apart)
            self.assert_refused((TEXT, NUM, NUM), ("if", other, "turn"), Apart)

    def test_blocks_of_which_ins_and_outs_are_exchanged(self):
        program = {"up": ((NUM,), (TEXT,), []), "down": ((TEXT,), (NUM,), [])}
        self.assert_refused((NUM, NUM), ("if", "up", "down"), Apart, program)

    def test_too_few_kinds_below_the_number(self):
        for kinds in ((NUM,), (NUM, NUM), (TEXT, NUM)):
            self.assert_refused(kinds, ("if", "turn", "same"), Empty)

    def test_wrong_kinds_below_the_number(self):
        for kinds in ((NUM, NUM, NUM), (TEXT, TEXT, NUM), (NUM, TEXT, NUM)):
            self.assert_refused(kinds, ("if", "turn", "same"), WrongKind)

    def test_the_number_goes_ahead_of_the_blocks(self):
        for yes, no in (("nowhere", "elsewhere"), ("turn", "none"), ("turn", "same")):
            self.assert_refused((), ("if", yes, no), Empty)
            self.assert_refused((TEXT,), ("if", yes, no), WrongKind)
            self.assert_refused((TEXT, NUM, TEXT), ("if", yes, no), WrongKind)

    def test_a_lacking_block_goes_ahead_of_all_behind_it(self):
        for kinds in ((NUM,), (TEXT, NUM), (TEXT, TEXT, NUM), (TEXT, NUM, NUM)):
            self.assert_refused(kinds, ("if", "turn", "nowhere"), NoBlock)
            self.assert_refused(kinds, ("if", "nowhere", "turn"), NoBlock)

    def test_apart_goes_ahead_of_the_kinds_below_the_number(self):
        for kinds in ((NUM,), (TEXT, NUM), (TEXT, TEXT, NUM), (TEXT, NUM, NUM)):
            self.assert_refused(kinds, ("if", "turn", "outs"), Apart)
            self.assert_refused(kinds, ("if", "outs", "turn"), Apart)


if __name__ == "__main__":
    unittest.main()
