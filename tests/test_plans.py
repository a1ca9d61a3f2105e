"""Nodes and what is counted of plans; which tuples are plans is tested in test_check_plan.py."""

import copy
import unittest

from asforetold.plans import (
    DEPTH_MOST, NODES_MOST, PARTS_MOST, RUNS_MOST, check_plan, depths, job_count, job_runs, longest_cleanup, parts_of,
)
from tests.trees import flat, height, job, jobs, one_of_each_word, runs

EXAMPLE = (("job", 4, "gives", 1, 0, None), ("job", 9, "gives", 2, 3, None), ("race", (0, 1)))


class PartsTest(unittest.TestCase):
    def test_most(self):
        self.assertEqual((NODES_MOST, DEPTH_MOST, RUNS_MOST, PARTS_MOST), (40, 8, 60, 6))

    def test_a_job_has_no_parts(self):
        self.assertEqual(parts_of(("job", 4, "gives", 1, 0, None)), ())
        self.assertEqual(parts_of(("job", 4, "throws", 1, 0, 7)), ())

    def test_nodes_of_many_parts(self):
        for word in ("all", "race", "any", "sequence"):
            self.assertEqual(parts_of((word, (0,))), (0,))
            self.assertEqual(parts_of((word, (1, 3, 4))), (1, 3, 4))
            self.assertEqual(parts_of((word, (0, 1, 2, 3, 4, 9))), (0, 1, 2, 3, 4, 9))

    def test_pool(self):
        self.assertEqual(parts_of(("pool", 6, (5,))), (5,))
        self.assertEqual(parts_of(("pool", 2, (1, 3, 4))), (1, 3, 4))

    def test_nodes_of_one_part(self):
        self.assertEqual(parts_of(("timeout", 5, 0)), (0,))
        self.assertEqual(parts_of(("timeout", 0, 17)), (17,))
        self.assertEqual(parts_of(("retry", 2, 3, 0)), (0,))
        self.assertEqual(parts_of(("retry", 5, 100, 38)), (38,))

    def test_orelse(self):
        self.assertEqual(parts_of(("orelse", 0, 1)), (0, 1))
        self.assertEqual(parts_of(("orelse", 4, 7)), (4, 7))


class DepthsTest(unittest.TestCase):
    def test_a_job(self):
        self.assertEqual(depths((job(),)), [1])

    def test_example(self):
        self.assertEqual(depths(EXAMPLE), [1, 1, 2])

    def test_the_deepest_part_counts_wherever_it_stands(self):
        deep = ("timeout", 1, ("timeout", 1, job()))
        self.assertEqual(depths(flat(("all", (deep, job())))), [1, 2, 3, 1, 4])
        self.assertEqual(depths(flat(("all", (job(), deep)))), [1, 1, 2, 3, 4])
        self.assertEqual(depths(flat(("orelse", deep, job()))), [1, 2, 3, 1, 4])
        self.assertEqual(depths(flat(("orelse", job(), deep))), [1, 1, 2, 3, 4])

    def test_each_word_is_one_deeper(self):
        two = (job(), job())
        for tree in (("all", two), ("race", two), ("any", two), ("sequence", two), ("pool", 1, two), ("orelse", *two)):
            self.assertEqual(depths(flat(tree)), [1, 1, 2], tree[0])
        self.assertEqual(depths(flat(("timeout", 9, job()))), [1, 2])
        self.assertEqual(depths(flat(("retry", 5, 9, job()))), [1, 2])

    def test_all_words(self):
        plan = flat(one_of_each_word())
        self.assertEqual(depths(plan), [1, 1, 2, 1, 1, 2, 1, 1, 2, 3, 1, 1, 2, 1, 1, 2, 3, 4])
        self.assertEqual(depths(plan)[-1], height(one_of_each_word()))

    def test_deeper_than_plans_may_be(self):
        tree = job()
        for _ in range(10):
            tree = ("timeout", 1, tree)
        self.assertEqual(depths(flat(tree)), list(range(1, 12)))

    def test_the_list_is_new_each_time(self):
        plan = flat(one_of_each_word())
        first = depths(plan)
        kept = list(first)
        first.append(99)
        first[0] = 50
        second = depths(plan)
        self.assertEqual(second, kept)
        self.assertIsNot(depths(plan), second)


class CountsTest(unittest.TestCase):
    def test_job_count(self):
        self.assertEqual(job_count((job(),)), 1)
        self.assertEqual(job_count(EXAMPLE), 2)
        self.assertEqual(job_count(flat(one_of_each_word())), 10)

    def test_job_count_counts_a_job_within_retries_once(self):
        self.assertEqual(job_count(flat(("retry", 5, 0, ("all", jobs(3))))), 3)

    def test_job_runs_without_retries(self):
        self.assertEqual(job_runs((job(),)), 1)
        self.assertEqual(job_runs(EXAMPLE), 2)
        for word in ("all", "race", "any", "sequence"):
            self.assertEqual(job_runs(flat((word, jobs(6)))), 6)
        self.assertEqual(job_runs(flat(("pool", 3, jobs(5)))), 5)
        self.assertEqual(job_runs(flat(("orelse", *jobs(2)))), 2)
        self.assertEqual(job_runs(flat(("timeout", 4, job()))), 1)

    def test_job_runs_with_retries(self):
        for retries in range(6):
            self.assertEqual(job_runs(flat(("retry", retries, 7, job()))), retries + 1)
            self.assertEqual(job_runs(flat(("retry", retries, 7, ("all", jobs(4))))), 4 * (retries + 1))

    def test_retries_within_one_another_multiply(self):
        inner = ("retry", 2, 0, ("all", jobs(2)))
        self.assertEqual(job_runs(flat(("retry", 3, 9, inner))), 24)
        self.assertEqual(job_runs(flat(("retry", 3, 9, ("sequence", (inner, job(), inner))))), 52)
        self.assertEqual(job_runs(flat(("retry", 0, 0, ("retry", 0, 0, job())))), 1)

    def test_retries_beside_one_another_add(self):
        self.assertEqual(job_runs(flat(("all", (("retry", 5, 0, job()), ("retry", 4, 0, job()), job())))), 12)

    def test_job_runs_of_all_words(self):
        self.assertEqual(job_runs(flat(one_of_each_word())), 12)
        self.assertEqual(runs(one_of_each_word()), 12)

    def test_job_runs_beyond_the_limit(self):
        tree = job()
        for _ in range(3):
            tree = ("retry", 5, 0, tree)
        self.assertEqual(job_runs(flat(tree)), 216)

    def test_longest_cleanup(self):
        self.assertEqual(longest_cleanup((job(cleanup=0),)), 0)
        self.assertEqual(longest_cleanup((job(cleanup=100),)), 100)
        self.assertEqual(longest_cleanup(EXAMPLE), 3)
        self.assertEqual(longest_cleanup(flat(one_of_each_word())), 100)

    def test_longest_cleanup_wherever_the_job_stands(self):
        for at in range(4):
            parts = [job(1000, "gives", 999, 2, 900)] * 4
            parts[at] = job(0, "gives", 0, 9, None)
            self.assertEqual(longest_cleanup(flat(("sequence", tuple(parts)))), 9)

    def test_longest_cleanup_is_that_of_a_job_alone(self):
        tree = ("retry", 5, 100, ("timeout", 1000, ("pool", 6, (job(50, "gives", 70, 1), job(60, "throws", 80, 2)))))
        self.assertEqual(longest_cleanup(flat(tree)), 2)


class UnchangedTest(unittest.TestCase):
    def test_plans_stay_as_they_were(self):
        plan = flat(one_of_each_word())
        kept = copy.deepcopy(plan)
        for function in (check_plan, depths, job_count, job_runs, longest_cleanup):
            function(plan)
            self.assertEqual(plan, kept)
        for node in plan:
            parts_of(node)
        self.assertEqual(plan, kept)


if __name__ == "__main__":
    unittest.main()
