"""Point 52: deeds, their bounds, and their texts."""

import unittest

from asforetold.deeds import check_deed, read_deed, write_deed
from asforetold.errors import OutOfRange, TextFault
from asforetold.sources import read_plan, write_plan
from tests.trees import flat, job, jobs, one_of_each_word, random_plans

DEEDS = {
    "cancel 0": ("cancel", 0),
    "cancel 7": ("cancel", 7),
    "advance 0": ("advance", 0),
    "advance 9": ("advance", 9),
    "advance 10": ("advance", 10),
    "advance 1000": ("advance", 1000),
    "spawn job(4,+1,0)": ("spawn", (("job", 4, "gives", 1, 0, None),)),
    "spawn job(0,-0,100,!999)": ("spawn", (("job", 0, "throws", 0, 100, 999),)),
    "spawn race(job(4,+1,0),job(9,+2,3))": (
        "spawn", (("job", 4, "gives", 1, 0, None), ("job", 9, "gives", 2, 3, None), ("race", (0, 1))),
    ),
}

# The texts of all deeds with a number.
NUMBERED = {"cancel " + str(root) for root in range(8)} | {"advance " + str(ticks) for ticks in range(1001)}


class BoundsTest(unittest.TestCase):
    def assert_out_of_range(self, name, deed):
        with self.assertRaises(OutOfRange) as caught:
            check_deed(deed)
        self.assertEqual(caught.exception.name, name)

    def test_deeds_within_their_bounds(self):
        for deed in DEEDS.values():
            self.assertIsNone(check_deed(deed))
        for root in range(8):
            self.assertIsNone(check_deed(("cancel", root)))
        for ticks in range(1001):
            self.assertIsNone(check_deed(("advance", ticks)))
        for plan in random_plans(52, 50):
            self.assertIsNone(check_deed(("spawn", plan)))

    def test_plans_out_of_range(self):
        wrong = (
            (), jobs(2), flat(("all", jobs(7))), flat(job(1001)), flat(job(1, "gives", 1, 101)),
            flat(("retry", 5, 0, ("all", jobs(6) + jobs(5)))), flat(("pool", 0, jobs(2))),
        )
        for plan in wrong:
            self.assert_out_of_range("plan", ("spawn", plan))

    def test_roots_out_of_range(self):
        for root in (-1, 8, 9, 100, 1000):
            self.assert_out_of_range("root", ("cancel", root))

    def test_ticks_out_of_range(self):
        for ticks in (-1, 1001, 1002, 100000):
            self.assert_out_of_range("ticks", ("advance", ticks))


class TextTest(unittest.TestCase):
    def test_written_and_read(self):
        for text, deed in DEEDS.items():
            self.assertEqual(write_deed(deed), text)
            self.assertEqual(read_deed(text), deed)

    def test_all_numbers(self):
        for root in range(8):
            self.assertEqual(write_deed(("cancel", root)), "cancel " + str(root))
            self.assertEqual(read_deed("cancel " + str(root)), ("cancel", root))
        for ticks in range(1001):
            self.assertEqual(write_deed(("advance", ticks)), "advance " + str(ticks))
            self.assertEqual(read_deed("advance " + str(ticks)), ("advance", ticks))

    def test_plans(self):
        for plan in [flat(one_of_each_word())] + random_plans(5252, 100):
            text = write_deed(("spawn", plan))
            self.assertEqual(text, "spawn " + write_plan(plan))
            self.assertEqual(read_deed(text), ("spawn", plan))

    def test_numbers_out_of_bounds(self):
        for text in ("cancel 8", "cancel 9", "cancel 10", "cancel 77", "cancel 1000", "advance 1001", "advance 9999"):
            self.assertIsNone(read_deed(text), text)
        for digits in (4, 5, 7, 8, 100, 5000, 6100):
            self.assertIsNone(read_deed("advance " + "9" * digits), digits)
            self.assertIsNone(read_deed("cancel " + "1" * digits), digits)

    def test_other_numbers(self):
        for number in ("", "-1", "+1", "00", "01", "007", "0100", "1.0", "1,0", "1e2", "x", "0x1", "1_0", "1 0", "5\n"):
            for word in ("cancel ", "advance ", "spawn "):
                self.assertIsNone(read_deed(word + number), word + number)

    def test_other_words(self):
        for word in ("", "Cancel", "CANCEL", "cance", "cancels", "canceladvance", "sync", "root", "effect", "job"):
            self.assertIsNone(read_deed(word + " 1"), word)
            self.assertIsNone(read_deed(word + " job(4,+1,0)"), word)

    def test_the_words_alone(self):
        for word in ("spawn", "cancel", "advance"):
            for text in (word, word + " ", " " + word, word + "\n", ""):
                self.assertIsNone(read_deed(text), text)

    def test_the_contents_of_another_word(self):
        wrong = ("spawn 1", "cancel job(4,+1,0)", "advance job(4,+1,0)", "cancel cancel 1", "spawn spawn job(4,+1,0)")
        for text in wrong:
            self.assertIsNone(read_deed(text), text)

    def test_plans_that_are_not_written_so(self):
        wrong = (
            "spawn job(4, +1,0)", "spawn  job(4,+1,0)", "spawn job(4,+1,0) ", "spawn\njob(4,+1,0)",
            "spawn job(4,+1,0)\n", "spawn job (4,+1,0)", "spawn job(04,+1,0)", "spawn job(4,+01,0)",
            "spawn job(4,1,0)", "spawn job(4,+1,0",
            "spawn job(4,+1,0))", "spawn job(1001,+1,0)", "spawn job(4,+1000,0)", "spawn job(4,+1,101)",
            "spawn job(4,+1,0,!)", "spawn job(4,+1,0,!1000)", "spawn all()", "spawn pool(0,job(4,+1,0))",
            "spawn retry(5,0,retry(5,0,all(job(4,+1,0),job(4,+1,0))))", "spawn job(4,+1,0),job(4,+1,0)",
        )
        for text in wrong:
            self.assertIsNone(read_deed(text), text)

    def test_plans_that_are_too_long(self):
        text = "spawn job(4,+1,0)"
        self.assertIsNone(read_deed(text + " " * 1985))
        self.assertIsNone(read_deed(text + " " * 4000))
        self.assertIsNone(read_deed("spawn " + "all(" * 1500))

    def test_a_sign_changed_left_out_or_put_in(self):
        signs = "0159+-,!() \nabcelnpswx"
        for text, deed in DEEDS.items():
            for at in range(len(text) + 1):
                for sign in signs:
                    self.assert_like(text[:at] + sign + text[at:])
                    self.assert_like(text[:at] + sign + text[at + 1:])
                self.assert_like(text[:at] + text[at + 1:])

    def assert_like(self, text):
        """A deed is read from just those texts that it is written as."""
        deed = read_deed(text)
        if deed is None:
            self.assertFalse(self.is_written(text), text)
        else:
            self.assertIsNone(check_deed(deed))
            self.assertEqual(write_deed(deed), text)

    def is_written(self, text):
        """Whether a text is a written deed, found by trying all numbers, and by reading the plan."""
        if text.startswith("spawn "):
            try:
                return write_plan(read_plan(text[6:])) == text[6:]
            except TextFault:
                return False
        return text in NUMBERED


if __name__ == "__main__":
    unittest.main()
