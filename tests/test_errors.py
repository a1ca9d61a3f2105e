import unittest

from asforetold import errors
from asforetold.errors import ForetoldError, OutOfRange, TextFault

PLAIN = (
    "TooManyRoots", "GraceTooShort", "NoRoot", "NotReady", "TasksReady", "NotSettled", "UnlikeEffects",
    "UnlikeNews", "NotKept", "NotOpen", "HouseFull", "PowerCut", "NoLetter",
)


class ErrorsTest(unittest.TestCase):
    def test_base_class(self):
        self.assertTrue(issubclass(ForetoldError, ValueError))
        self.assertEqual(str(ForetoldError("why")), "why")

    def test_each_class_is_below_the_base_class_alone(self):
        names = PLAIN + ("TextFault", "OutOfRange")
        for one in names:
            self.assertTrue(issubclass(getattr(errors, one), ForetoldError), one)
            for two in names:
                below = issubclass(getattr(errors, one), getattr(errors, two))
                self.assertEqual(below, one == two, (one, two))

    def test_the_base_class_is_below_none_of_them(self):
        for name in PLAIN + ("TextFault", "OutOfRange"):
            self.assertFalse(issubclass(ForetoldError, getattr(errors, name)), name)

    def test_plain_errors_take_one_string_and_have_no_fields(self):
        for name in PLAIN:
            error = getattr(errors, name)("some words")
            self.assertEqual(str(error), "some words", name)
            self.assertEqual(vars(error), {}, name)

    def test_each_error_is_caught_by_its_class_and_by_the_base_class(self):
        for name in PLAIN:
            made = getattr(errors, name)
            for caught in (made, ForetoldError, ValueError):
                with self.assertRaises(caught):
                    raise made("some words")

    def test_text_fault_has_its_fields(self):
        fault = TextFault(3, 14, "expected a plan")
        self.assertEqual(vars(fault), {"line": 3, "column": 14, "words": "expected a plan"})
        fault = TextFault(line=1, column=2, words="too deep")
        self.assertEqual((fault.line, fault.column, fault.words), (1, 2, "too deep"))

    def test_out_of_range_has_its_field(self):
        self.assertEqual(vars(OutOfRange("plan")), {"name": "plan"})
        self.assertEqual(OutOfRange(name="grace").name, "grace")

    def test_the_fields_are_needed(self):
        with self.assertRaises(TypeError):
            TextFault(1, 2)
        with self.assertRaises(TypeError):
            OutOfRange()


if __name__ == "__main__":
    unittest.main()
