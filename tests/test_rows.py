"""The plain rows: what they put, and when they are refused."""

import copy
import unittest

from stackproof import errors, rows
from stackproof.rows import done, kinds_of

MOST = 999999999
SIGNS = "".join(chr(code) for code in range(ord(" "), ord("~") + 1) if chr(code) != "%")
SIXTY = "0123456789" * 6

# What lies beneath the values that a row takes, of both kinds.
BENEATH = ([], [7], ["low"], ["low", 7], [0, "", MOST, SIXTY])

# Each row that wants values: its tuple, values that it takes, what it puts.
TAKERS = (
    (("add",), [3, 4], [7]),
    (("mul",), [3, 4], [12]),
    (("less",), [3, 4], [1]),
    (("join",), ["ab", "cd"], ["abcd"]),
    (("long",), ["abc"], [3]),
    (("show",), [120], ["120"]),
    (("swap",), [1, "a"], ["a", 1]),
    (("drop",), ["a"], []),
    (("copy", 0), ["a"], ["a", "a"]),
    (("copy", 2), ["a", 1, 2], ["a", 1, 2, "a"]),
    (("copy", 60), ["low"] + [1] * 60, ["low"] + [1] * 60 + ["low"]),
)
# Each row that puts what it holds itself.
PUTTERS = (
    (("num", 0), [], [0]),
    (("num", MOST), [], [MOST]),
    (("text", ""), [], [""]),
    (("text", "a b"), [], ["a b"]),
)

# For each row that takes values of a kind told: values that are all wrong, or
# of which just one is.
WRONG = (
    (("add",), [["a", 1], [1, "a"], ["a", "b"]]),
    (("mul",), [["a", 1], [1, "a"], ["a", "b"]]),
    (("less",), [["a", 1], [1, "a"], ["a", "b"]]),
    (("join",), [["a", 1], [1, "a"], [1, 2]]),
    (("long",), [[1]]),
    (("show",), [["a"], ["1"], [""]]),
)


class RowCase(unittest.TestCase):

    def assert_puts(self, taken, row, put):
        """The row puts these values, of these kinds, whatever lies beneath."""
        for beneath in BENEATH:
            answer = done(beneath + taken, row)
            self.assertIsInstance(answer, list)
            self.assertEqual(answer, beneath + put)
            for value, meant in zip(answer, beneath + put):
                self.assertIs(type(value), type(meant))

    def assert_refused(self, stack, row, refusal):
        """The row is refused with that class and with no other one."""
        before = copy.copy(stack)
        with self.assertRaises(errors.StackError) as caught:
            done(stack, row)
        self.assertIs(type(caught.exception), refusal)
        self.assertIsInstance(caught.exception, ValueError)
        self.assertEqual(stack, before)


class Interface(unittest.TestCase):

    def test_functions_are_defined_in_this_file(self):
        for function in (rows.kinds_of, rows.done):
            self.assertEqual(function.__module__, "stackproof.rows")

    def test_arguments_have_the_names_told(self):
        self.assertEqual(kinds_of(stack=[1]), ("num",))
        self.assertEqual(done(stack=[1], row=("drop",)), [])


class Kinds(unittest.TestCase):

    def test_no_value_has_no_kind(self):
        self.assertEqual(kinds_of([]), ())

    def test_kinds_stand_as_their_values_do(self):
        self.assertEqual(kinds_of([1, "a", "b", 2]), ("num", "text", "text", "num"))

    def test_numbers_are_of_the_kind_num(self):
        self.assertEqual(kinds_of([0, 1, MOST]), ("num", "num", "num"))

    def test_texts_are_of_the_kind_text(self):
        self.assertEqual(kinds_of(["", "12", SIXTY, "num"]), ("text",) * 4)

    def test_the_answer_is_a_tuple(self):
        self.assertIs(type(kinds_of([])), tuple)
        self.assertIs(type(kinds_of([1, "a"])), tuple)

    def test_the_stack_stays_as_it_was(self):
        stack = [1, "a"]
        kinds_of(stack)
        self.assertEqual(stack, [1, "a"])


class NumAndText(RowCase):

    def test_num_puts_its_number(self):
        for number in (0, 1, 60, MOST):
            self.assert_puts([], ("num", number), [number])

    def test_text_puts_its_text(self):
        for text in ("", "a", "0", SIXTY, SIGNS[:60], SIGNS[-60:]):
            self.assert_puts([], ("text", text), [text])


class Add(RowCase):

    def test_puts_the_sum(self):
        self.assert_puts([3, 4], ("add",), [7])
        self.assert_puts([0, 0], ("add",), [0])
        self.assert_puts([0, MOST], ("add",), [MOST])
        self.assert_puts([MOST, 0], ("add",), [MOST])

    def test_a_sum_of_just_the_modulus_is_0(self):
        self.assert_puts([MOST, 1], ("add",), [0])
        self.assert_puts([500000000, 500000000], ("add",), [0])

    def test_a_greater_sum_leaves_its_rest(self):
        self.assert_puts([MOST, 2], ("add",), [1])
        self.assert_puts([MOST, MOST], ("add",), [999999998])

    def test_takes_two_alone(self):
        self.assertEqual(done([1, 2, 3], ("add",)), [1, 5])


class Mul(RowCase):

    def test_puts_the_product(self):
        self.assert_puts([3, 4], ("mul",), [12])
        self.assert_puts([0, MOST], ("mul",), [0])
        self.assert_puts([MOST, 1], ("mul",), [MOST])
        self.assert_puts([333333333, 3], ("mul",), [MOST])

    def test_a_product_of_just_the_modulus_is_0(self):
        self.assert_puts([500000000, 2], ("mul",), [0])
        self.assert_puts([31250, 32000], ("mul",), [0])

    def test_a_greater_product_leaves_its_rest(self):
        self.assert_puts([500000001, 2], ("mul",), [2])
        self.assert_puts([MOST, MOST], ("mul",), [1])
        self.assert_puts([123456789, 987654321], ("mul",), [112635269])

    def test_takes_two_alone(self):
        self.assertEqual(done([2, 3, 4], ("mul",)), [2, 12])


class Less(RowCase):

    def test_1_where_the_lower_one_is_less(self):
        self.assert_puts([3, 4], ("less",), [1])
        self.assert_puts([0, MOST], ("less",), [1])

    def test_0_where_the_lower_one_is_greater(self):
        self.assert_puts([4, 3], ("less",), [0])
        self.assert_puts([MOST, 0], ("less",), [0])

    def test_0_at_equal_numbers(self):
        for number in (0, 1, MOST):
            self.assert_puts([number, number], ("less",), [0])

    def test_numbers_are_not_compared_by_their_figures(self):
        self.assert_puts([9, 10], ("less",), [1])
        self.assert_puts([10, 9], ("less",), [0])


class Join(RowCase):

    def test_the_upper_one_stands_behind_the_lower_one(self):
        self.assert_puts(["ab", "cd"], ("join",), ["abcd"])
        self.assert_puts(["cd", "ab"], ("join",), ["cdab"])

    def test_texts_of_no_sign(self):
        self.assert_puts(["", ""], ("join",), [""])
        self.assert_puts(["ab", ""], ("join",), ["ab"])
        self.assert_puts(["", "ab"], ("join",), ["ab"])

    def test_all_sixty_signs_are_kept(self):
        self.assert_puts([SIXTY[:59], "z"], ("join",), [SIXTY[:59] + "z"])
        self.assert_puts([SIXTY[:30], SIXTY[30:]], ("join",), [SIXTY])
        self.assert_puts([SIXTY, ""], ("join",), [SIXTY])
        self.assert_puts(["", SIXTY], ("join",), [SIXTY])

    def test_of_more_than_sixty_the_first_ones_are_kept(self):
        self.assert_puts([SIXTY, "z"], ("join",), [SIXTY])
        self.assert_puts(["z", SIXTY], ("join",), ["z" + SIXTY[:59]])
        self.assert_puts([SIXTY[:59], "yz"], ("join",), [SIXTY[:59] + "y"])
        self.assert_puts(["a" * 60, "b" * 60], ("join",), ["a" * 60])

    def test_all_signs_are_kept_as_they_are(self):
        self.assert_puts([SIGNS[:30], SIGNS[30:60]], ("join",), [SIGNS[:60]])
        self.assert_puts([SIGNS[60:], " "], ("join",), [SIGNS[60:] + " "])


class LongAndShow(RowCase):

    def test_long_puts_how_many_signs_there_are(self):
        self.assert_puts([""], ("long",), [0])
        self.assert_puts(["a"], ("long",), [1])
        self.assert_puts(["  a "], ("long",), [4])
        self.assert_puts([SIXTY], ("long",), [60])
        self.assert_puts([SIGNS[-60:]], ("long",), [60])

    def test_show_puts_the_figures(self):
        self.assert_puts([0], ("show",), ["0"])
        self.assert_puts([7], ("show",), ["7"])
        self.assert_puts([1000], ("show",), ["1000"])
        self.assert_puts([MOST], ("show",), ["999999999"])


class SwapDropCopy(RowCase):

    def test_swap_exchanges_values_of_any_kinds(self):
        for low in (1, "a"):
            for high in (2, "b"):
                self.assert_puts([low, high], ("swap",), [high, low])

    def test_drop_takes_a_value_of_any_kind(self):
        self.assert_puts([1], ("drop",), [])
        self.assert_puts(["a"], ("drop",), [])
        self.assertEqual(done([1, "a", 2], ("drop",)), [1, "a"])

    def test_copy_of_0_is_the_uppermost_value(self):
        self.assert_puts([1], ("copy", 0), [1, 1])
        self.assert_puts(["a"], ("copy", 0), ["a", "a"])
        self.assertEqual(done([1, 2, "a"], ("copy", 0)), [1, 2, "a", "a"])

    def test_copy_reaches_k_below_the_uppermost_value(self):
        self.assertEqual(done(["a", 1, "b", 2], ("copy", 1)), ["a", 1, "b", 2, "b"])
        self.assertEqual(done(["a", 1, "b", 2], ("copy", 2)), ["a", 1, "b", 2, 1])

    def test_copy_of_the_lowest_value(self):
        self.assertEqual(done(["a", 1, "b", 2], ("copy", 3)), ["a", 1, "b", 2, "a"])

    def test_copy_of_60(self):
        stack = list(range(100, 161))
        self.assertEqual(done(stack, ("copy", 60)), stack + [100])
        self.assertEqual(done(["low"] + stack, ("copy", 60)), ["low"] + stack + [100])


class RefusedWithEmpty(RowCase):

    def test_an_empty_stack(self):
        for row, _, _ in TAKERS:
            with self.subTest(row=row):
                self.assert_refused([], row, errors.Empty)

    def test_one_value_less_than_the_row_wants(self):
        for row, taken, _ in TAKERS:
            with self.subTest(row=row):
                self.assert_refused(taken[1:], row, errors.Empty)

    def test_just_as_many_values_as_the_row_wants_will_do(self):
        for row, taken, put in TAKERS + PUTTERS:
            with self.subTest(row=row):
                self.assertEqual(done(taken, row), put)

    def test_copy_wants_k_and_one_values(self):
        for k in (0, 1, 2, 59, 60):
            with self.subTest(k=k):
                self.assert_refused([5] * k, ("copy", k), errors.Empty)
                self.assertEqual(done([5] * (k + 1), ("copy", k)), [5] * (k + 2))

    def test_empty_goes_ahead_of_wrong_kind(self):
        for word in ("add", "mul", "less"):
            with self.subTest(word=word):
                self.assert_refused(["a"], (word,), errors.Empty)
        self.assert_refused([1], ("join",), errors.Empty)


class RefusedWithWrongKind(RowCase):

    def test_a_wrong_kind_at_each_place(self):
        for row, stacks in WRONG:
            for taken in stacks:
                for beneath in BENEATH:
                    with self.subTest(row=row, taken=taken, beneath=beneath):
                        self.assert_refused(beneath + taken, row, errors.WrongKind)

    def test_a_wrong_kind_beneath_is_not_looked_at(self):
        for row, taken, put in TAKERS:
            for other in (9, "other"):
                with self.subTest(row=row, other=other):
                    self.assertEqual(done([other] + taken, row), [other] + put)

    def test_figures_are_no_number(self):
        self.assert_refused(["1", "2"], ("add",), errors.WrongKind)


class NothingIsChanged(RowCase):

    def test_behind_an_answer(self):
        for row, taken, _ in TAKERS + PUTTERS:
            for beneath in BENEATH:
                with self.subTest(row=row, beneath=beneath):
                    stack = beneath + taken
                    before = copy.copy(stack)
                    answer = done(stack, row)
                    self.assertEqual(stack, before)
                    self.assertIsNot(answer, stack)

    def test_a_change_of_the_answer_stays_there(self):
        for row, taken, _ in TAKERS + PUTTERS:
            with self.subTest(row=row):
                stack = ["low"] + taken
                before = copy.copy(stack)
                answer = done(stack, row)
                answer[0] = "changed"
                answer.append("more")
                self.assertEqual(stack, before)

    def test_a_row_that_changes_no_value_gives_another_list_too(self):
        for stack, row in (([4, 4], ("swap",)), ([1, 0], ("mul",))):
            self.assertIsNot(done(stack, row), stack)

    def test_the_same_answer_at_every_call(self):
        for row, taken, put in TAKERS + PUTTERS:
            first = done(taken, row)
            first.append("changed")
            with self.subTest(row=row):
                self.assertEqual(done(taken, row), put)


class BeyondTheLimits(RowCase):
    """What goes somewhat beyond the limits is not refused."""

    def test_numbers(self):
        self.assert_puts([], ("num", 1000000000), [1000000000])
        self.assert_puts([1000000001, 1], ("add",), [2])
        self.assert_puts([1000000001, 3], ("mul",), [3])
        self.assert_puts([MOST, 1000000000], ("less",), [1])
        self.assert_puts([1000000000], ("show",), ["1000000000"])

    def test_texts(self):
        long_text = SIXTY + "z"
        self.assert_puts([], ("text", long_text), [long_text])
        self.assert_puts([long_text], ("long",), [61])
        self.assert_puts([long_text, "a"], ("join",), [SIXTY])

    def test_copy(self):
        stack = list(range(62))
        self.assertEqual(done(stack, ("copy", 61)), stack + [0])
        self.assert_refused(stack[1:], ("copy", 61), errors.Empty)

    def test_stacks(self):
        stack = [1] * 3000
        self.assertEqual(done(stack, ("add",)), [1] * 2998 + [2])


if __name__ == "__main__":
    unittest.main()
