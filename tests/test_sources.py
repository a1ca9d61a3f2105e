"""Plans as text: the written form, and reading what has no fault; faults are tested in test_source_faults.py."""

import copy
import random
import unittest

from asforetold.errors import OutOfRange
from asforetold.plans import check_plan
from asforetold.sources import SOURCE_MOST, read_plan, write_plan
from tests.trees import flat, grown, height, job, jobs, lay, one_of_each_word, random_plans, tokens

WRITTEN = (
    (job(4, "gives", 1, 0), "job(4,+1,0)"),
    (job(4, "throws", 1, 0), "job(4,-1,0)"),
    (job(0, "gives", 0, 0), "job(0,+0,0)"),
    (job(1000, "throws", 999, 100, 999), "job(1000,-999,100,!999)"),
    (job(9, "gives", 2, 3, 0), "job(9,+2,3,!0)"),
    (("all", (job(4, "gives", 1), job(9, "gives", 2, 3))), "all(job(4,+1,0),job(9,+2,3))"),
    (("race", (job(4, "gives", 1), job(9, "gives", 2, 3))), "race(job(4,+1,0),job(9,+2,3))"),
    (("any", (job(4, "gives", 1),)), "any(job(4,+1,0))"),
    (("pool", 6, (job(4, "gives", 1),)), "pool(6,job(4,+1,0))"),
    (("pool", 1, (job(4, "gives", 1), job(5, "gives", 2))), "pool(1,job(4,+1,0),job(5,+2,0))"),
    (("timeout", 0, job(4, "gives", 1)), "timeout(0,job(4,+1,0))"),
    (("timeout", 1000, job(4, "gives", 1)), "timeout(1000,job(4,+1,0))"),
    (("sequence", (job(4, "gives", 1), job(4, "gives", 1))), "sequence(job(4,+1,0),job(4,+1,0))"),
    (("orelse", job(4, "throws", 1), job(5, "gives", 2)), "orelse(job(4,-1,0),job(5,+2,0))"),
    (("retry", 5, 100, job(4, "throws", 1)), "retry(5,100,job(4,-1,0))"),
    (("retry", 0, 0, ("timeout", 7, job())), "retry(0,0,timeout(7,job(1,+1,0)))"),
    (
        one_of_each_word(),
        "sequence(all(job(3,+1,2,!7),job(0,-2,0)),race(job(4,+3,5),job(9,+4,3)),"
        "any(job(1,-5,0),timeout(6,job(8,+6,100,!0))),pool(2,job(1000,+7,0),job(0,+8,0)),"
        "orelse(job(2,-9,0),retry(2,3,job(5,-999,1,!999))))",
    ),
)

# 40 nodes, eight deep, six parts wide.
FULL = ("retry", 1, 0, ("sequence", (
    ("all", jobs(6)), ("race", jobs(6)), ("any", jobs(6)), ("pool", 3, jobs(6)), ("orelse", job(), job()),
    ("timeout", 5, ("all", (("all", (("all", (("all", jobs(2)),)),)),))),
)))


class WriteTest(unittest.TestCase):
    def test_written_form(self):
        for tree, text in WRITTEN:
            self.assertEqual(write_plan(flat(tree)), text)

    def test_random_plans_sign_by_sign(self):
        for plan in random_plans(11, 300):
            text = "".join([sign for sign, _ in tokens(grown(plan, len(plan) - 1))])
            self.assertEqual(write_plan(plan), text)

    def test_the_plan_stays_as_it_is(self):
        plan = flat(one_of_each_word())
        kept = copy.deepcopy(plan)
        write_plan(plan)
        self.assertEqual(plan, kept)


class ReadTest(unittest.TestCase):
    def test_most(self):
        self.assertEqual(SOURCE_MOST, 2000)

    def test_the_written_form_is_read_back(self):
        for tree, text in WRITTEN:
            self.assertEqual(read_plan(text), flat(tree), text)

    def test_example(self):
        self.assertEqual(
            read_plan("race(job(4,+1,0),job(9,+2,3))"),
            (("job", 4, "gives", 1, 0, None), ("job", 9, "gives", 2, 3, None), ("race", (0, 1))),
        )

    def test_random_plans(self):
        for plan in random_plans(12, 300):
            self.assertEqual(read_plan(write_plan(plan)), plan)

    def test_kinds(self):
        plan = read_plan("pool(2,job(1,+2,3,!4),job(1,-2,0),orelse(job(0,+0,0),retry(1,0,timeout(3,job(1,+1,1)))))")
        self.assertIsInstance(plan, tuple)
        check_plan(plan)
        for node in plan:
            self.assertIsInstance(node, tuple)
            for item in node[1:]:
                self.assertIn(type(item), (int, str, tuple, type(None)))

    def test_blanks_and_newlines(self):
        dice = random.Random(13)
        for plan in random_plans(14, 200) + [flat(tree) for tree, _ in WRITTEN]:
            text, _ = lay([sign for sign, _ in tokens(grown(plan, len(plan) - 1))], dice)
            if len(text) <= SOURCE_MOST:
                self.assertEqual(read_plan(text), plan, text)

    def test_blanks_anywhere_between_two_tokens(self):
        signs = [sign for sign, _ in tokens(one_of_each_word())]
        for at in range(len(signs) + 1):
            for apart in (" ", "\n", "\n \n"):
                text = "".join(signs[:at]) + apart + "".join(signs[at:])
                self.assertEqual(read_plan(text), flat(one_of_each_word()))

    def test_just_within_the_bounds(self):
        plan = flat(FULL)
        self.assertEqual((len(plan), height(FULL)), (40, 8))
        self.assertEqual(read_plan(write_plan(plan)), plan)
        for text in ("job(1000,+999,100,!999)", "pool(6,job(0,-0,0))", "timeout(1000,job(1,+1,0))",
                     "retry(5,100,job(1,+1,0))"):
            self.assertEqual(write_plan(read_plan(text)), text)


class LengthTest(unittest.TestCase):
    def refused(self, text):
        with self.assertRaises(OutOfRange) as caught:
            read_plan(text)
        self.assertEqual(caught.exception.name, "text")

    def test_length(self):
        text = "job(4,+1,0)"
        for filling in (" ", "\n"):
            for length in (1999, 2000):
                self.assertEqual(read_plan(text + filling * (length - len(text))), flat(job(4, "gives", 1)))
                self.assertEqual(read_plan(filling * (length - len(text)) + text), flat(job(4, "gives", 1)))
            for length in (2001, 2002, 5000):
                self.refused(text + filling * (length - len(text)))
                self.refused(filling * (length - len(text)) + text)

    def test_the_length_is_checked_before_faults(self):
        self.refused("?" * 2001)
        self.refused(" " * 2001)
        self.refused("9" * 2001)


if __name__ == "__main__":
    unittest.main()
