"""The six classes of refusals."""

import unittest

from stackproof import errors

KINDS = ("Empty", "WrongKind", "NoBlock", "Apart", "Dry")


class ErrorClasses(unittest.TestCase):

    def test_stack_error_stands_under_value_error_alone(self):
        self.assertEqual(errors.StackError.__bases__, (ValueError,))

    def test_each_refusal_stands_under_stack_error_alone(self):
        for name in KINDS:
            with self.subTest(name=name):
                self.assertEqual(getattr(errors, name).__bases__, (errors.StackError,))

    def test_no_refusal_is_of_another_class_of_refusals(self):
        for name in KINDS:
            for other in KINDS:
                with self.subTest(name=name, other=other):
                    under = issubclass(getattr(errors, name), getattr(errors, other))
                    self.assertEqual(under, name == other)

    def test_classes_are_defined_in_this_file(self):
        for name in ("StackError",) + KINDS:
            with self.subTest(name=name):
                self.assertEqual(getattr(errors, name).__module__, "stackproof.errors")
                self.assertEqual(getattr(errors, name).__name__, name)

    def test_a_refusal_is_caught_as_stack_error_and_as_value_error(self):
        for name in KINDS:
            for above in (errors.StackError, ValueError):
                with self.subTest(name=name, above=above.__name__):
                    with self.assertRaises(above):
                        raise getattr(errors, name)("refused")


if __name__ == "__main__":
    unittest.main()
