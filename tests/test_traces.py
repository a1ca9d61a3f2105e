import copy
import itertools
import random
import unittest

from asforetold.errors import OutOfRange, TextFault
from asforetold.foretelling import predict
from asforetold.traces import TRACE_MOST, read_trace, write_trace
from tests.trees import flat, lines, one_of_each_word, random_plans

DEADLINE = "deadline exceeded"
WORDS = ("expected a path", "expected an instant", "expected an instant", "expected an outcome", "expected results")

# Rows of entries that no plan has: large numbers, results that do not fit their outcomes, no order.
FREE = (
    ((0,), (0, 0), (0, 0), "completed", ()),
    ((9999999, 0, 1234567, 10, 0, 3), (1000000, 1000), (9999999, 9999999), "failed", (0, 999, DEADLINE, 10)),
    ((7, 1), None, (3, 12), "cancelled", (DEADLINE,)),
    ((0,), None, (0, 1), "completed", (DEADLINE, DEADLINE, 100)),
    ((3, 0, 0), (5, 2), (4, 0), "failed", ()),
    ((1, 2, 3, 4, 5, 6, 7), (10, 0), (100, 100), "cancelled", tuple(range(60))),
)


def text_of(trace):
    return "".join([line + "\n" for line in lines(trace)])


def fault_of(text):
    """The line, the column and the words of the fault of a text; None if it is a trace."""
    try:
        read_trace(text)
    except TextFault as fault:
        return (fault.line, fault.column, fault.words)
    return None


class WriteTest(unittest.TestCase):
    def test_lines(self):
        self.assertEqual(write_trace((((0, 0, 1), None, (7, 1), "cancelled", ()),)), "0.0.1 - 7.1 cancelled -\n")
        self.assertEqual(write_trace((((0,), (0, 0), (7, 0), "completed", (1, 20)),)), "0 0.0 7.0 completed 1,20\n")
        self.assertEqual(
            write_trace((
                ((3, 0, 1), (4, 2), (10, 0), "failed", (DEADLINE, 999)), ((3,), (4, 2), (11, 0), "failed", (0,)),
            )),
            "3.0.1 4.2 10.0 failed deadline,999\n3 4.2 11.0 failed 0\n",
        )

    def test_free_rows(self):
        self.assertEqual(write_trace(FREE), text_of(FREE))
        self.assertEqual(
            write_trace(FREE[1:4]),
            "9999999.0.1234567.10.0.3 1000000.1000 9999999.9999999 failed 0,999,deadline,10\n"
            "7.1 - 3.12 cancelled deadline\n0 - 0.1 completed deadline,deadline,100\n",
        )

    def test_the_empty_trace(self):
        self.assertEqual(write_trace(()), "")

    def test_predictions(self):
        for plan in random_plans(51, 200) + [flat(one_of_each_word())]:
            for cancel in (None, (0, 1), (2, 0), (3, 4)):
                trace = predict(plan, (2, 0, 1), (0, 1), cancel)[3]
                self.assertEqual(write_trace(trace), text_of(trace))

    def test_the_trace_stays_as_it_is(self):
        kept = copy.deepcopy(FREE)
        write_trace(FREE)
        self.assertEqual(FREE, kept)


class ReadTest(unittest.TestCase):
    def test_most(self):
        self.assertEqual(TRACE_MOST, 20000)

    def test_what_is_written_is_read_back(self):
        for many in range(len(FREE) + 1):
            self.assertEqual(read_trace(text_of(FREE[:many])), FREE[:many])
        self.assertEqual(
            read_trace("0.0.1 - 7.1 cancelled -\n0 4.2 8.0 failed 7,deadline\n"),
            (((0, 0, 1), None, (7, 1), "cancelled", ()), ((0,), (4, 2), (8, 0), "failed", (7, DEADLINE))),
        )

    def test_the_empty_trace(self):
        self.assertEqual(read_trace(""), ())

    def test_predictions(self):
        for plan in random_plans(52, 200) + [flat(one_of_each_word())]:
            for cancel in (None, (0, 1), (2, 0), (3, 4)):
                trace = predict(plan, (2, 0, 1), (0, 1), cancel)[3]
                self.assertEqual(read_trace(write_trace(trace)), trace)

    def test_kinds(self):
        trace = read_trace(text_of(FREE))
        self.assertIsInstance(trace, tuple)
        for entry in trace:
            self.assertEqual([type(part) for part in entry[:1] + entry[2:]], [tuple, tuple, str, tuple])


class LengthTest(unittest.TestCase):
    def text(self, length):
        """The text of a trace of just so many characters, at least 40."""
        line = "0 0.0 0.0 failed -\n"
        rest = length - len(line) * (length // len(line) - 1)
        # The last line makes up for the rest by the digits of its end and the numbers of its path.
        digits = "1" * (1 + (rest - len(line)) % 2)
        last = "0" + ".0" * ((rest - len(line)) // 2) + f" 0.0 {digits}.0 failed -\n"
        return line * (length // len(line) - 1) + last

    def test_length(self):
        for length in (19998, 19999, 20000):
            text = self.text(length)
            self.assertEqual(len(text), length)
            self.assertEqual(text_of(read_trace(text)), text)
        for length in (20001, 20002, 50000):
            for text in (self.text(length), "?" * length, "\n" * length):
                self.assertEqual(len(text), length)
                with self.assertRaises(OutOfRange) as caught:
                    read_trace(text)
                self.assertEqual(caught.exception.name, "text")


class PartTest(unittest.TestCase):
    """Lines in which one part, or the sign behind it, is another one."""

    STRANGERS = (
        ("", "x", "-", "0.", ".0", "00", "0.01", "0..1", "12345678", "0.12345678", "+1", "0,1", "?", "1.2-", "-1"),
        ("", "x", "1", "1.2.3", "1.", ".1", "01.2", "1.02", "--", "12345678.0", "0.12345678", "1,2", "None", "-.1"),
        ("", "x", "-", "1", "1.2.3", "1.", ".1", "01.2", "1.02", "12345678.0", "0.12345678", "1,2", "None", "-1.0"),
        ("", "-", "complete", "completed,", "Failed", "FAILED", "canceled", "cancelledx", "xfailed", "0"),
        ("", "x", "--", "-,-", "1,", ",1", "1,,2", "01", "1,00", "1000", "1,1000", "-1", "1,-", "deadlines", "Deadline",
         "deadline,", "deadline-exceeded", "1.2", "1;2", "9999999", ",".join(["7"] * 61)),
    )

    def samples(self):
        """Rows of entries as lists of the parts of their lines."""
        for many in range(1, len(FREE) + 1):
            yield [line.split(" ") for line in lines(FREE[:many])]

    def text(self, rows):
        return "".join([" ".join(row) + "\n" for row in rows])

    def test_another_part(self):
        for rows in self.samples():
            for at, part in itertools.product(range(len(rows)), range(5)):
                for stranger in self.STRANGERS[part]:
                    other = copy.deepcopy(rows)
                    other[at][part] = stranger
                    column = 1 + sum([len(before) + 1 for before in rows[at][:part]])
                    self.assertEqual(fault_of(self.text(other)), (at + 1, column, WORDS[part]), (other[at]))

    def test_the_text_ends_at_a_part(self):
        for rows in self.samples():
            for at, part in itertools.product(range(len(rows)), range(5)):
                text = self.text(rows[:at]) + "".join([before + " " for before in rows[at][:part]])
                column = 1 + sum([len(before) + 1 for before in rows[at][:part]])
                if at + part > 0:
                    expected = None if part == 0 else (at + 1, column, WORDS[part])
                    self.assertEqual(fault_of(text), expected, repr(text))
                words = "expected a newline" if part == 4 else "expected a space"
                expected = (at + 1, column + len(rows[at][part]), words)
                self.assertEqual(fault_of(text + rows[at][part]), expected, repr(text))

    def test_another_sign_behind_a_part(self):
        for rows in self.samples():
            for at, part in itertools.product(range(len(rows)), range(5)):
                before = self.text(rows[:at]) + " ".join(rows[at][:part + 1])
                column = 1 + len(" ".join(rows[at][:part + 1]))
                behind = " ".join(rows[at][part + 1:]) + "\n" + self.text(rows[at + 1:])
                sign, words = (" ", "expected a newline") if part == 4 else ("\n", "expected a space")
                self.assertEqual(fault_of(before + sign + behind), (at + 1, column, words))

    def test_one_more_sign_behind_a_part(self):
        for rows in self.samples():
            for at, part in itertools.product(range(len(rows)), range(5)):
                before = self.text(rows[:at]) + " ".join(rows[at][:part + 1])
                column = 1 + len(" ".join(rows[at][:part + 1]))
                behind = " ".join(rows[at][part + 1:]) + "\n" + self.text(rows[at + 1:])
                if part == 4:
                    self.assertEqual(fault_of(before + " \n"), (at + 1, column, "expected a newline"))
                    self.assertEqual(fault_of(before + "\n\n"), (at + 2, 1, "expected a path"))
                    self.assertEqual(fault_of(before + "\n "), (at + 2, 1, "expected a path"))
                else:
                    self.assertEqual(fault_of(before + "  " + behind), (at + 1, column + 1, WORDS[part + 1]))

    def test_digits(self):
        for good, bad in (("999999", "0999999"), ("9999999", "10000000"), ("1000000", "99999999"), ("0", "00")):
            self.assertIsNone(fault_of(f"0.{good} {good}.{good} {good}.{good} failed -\n"))
            self.assertEqual(fault_of(f"0.{bad} 0.0 0.0 failed -\n"), (1, 1, "expected a path"))
            self.assertEqual(fault_of(f"0 {bad}.0 0.0 failed -\n"), (1, 3, "expected an instant"))
            self.assertEqual(fault_of(f"0 0.{bad} 0.0 failed -\n"), (1, 3, "expected an instant"))
            self.assertEqual(fault_of(f"0 0.0 {bad}.0 failed -\n"), (1, 7, "expected an instant"))
            self.assertEqual(fault_of(f"0 0.0 0.{bad} failed -\n"), (1, 7, "expected an instant"))

    def test_how_many_results(self):
        dice = random.Random(53)
        for many in (1, 2, 59, 60):
            result = tuple([dice.choice((0, 7, 10, 999, DEADLINE)) for _ in range(many)])
            trace = (((0,), (0, 0), (0, 0), "completed", result),)
            self.assertEqual(read_trace(text_of(trace)), trace)
        for many in (61, 62, 100):
            text = text_of((((0,), (0, 0), (0, 0), "completed", (7,) * many),))
            self.assertEqual(fault_of(text), (1, 21, "expected results"))

    def test_the_first_fault_counts(self):
        self.assertEqual(fault_of("0 0.0 0.0 failed -\n0 x 0.0 failed ?\n?"), (2, 3, "expected an instant"))
        self.assertEqual(fault_of("?\n0 0.0 0.0 failed -\n"), (1, 1, "expected a path"))
        self.assertEqual(fault_of("\n"), (1, 1, "expected a path"))
        self.assertEqual(fault_of(" "), (1, 1, "expected a path"))
        self.assertEqual(fault_of("\n\n"), (1, 1, "expected a path"))


if __name__ == "__main__":
    unittest.main()
