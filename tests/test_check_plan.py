"""Which tuples are plans."""

import itertools
import unittest

from asforetold.errors import OutOfRange
from asforetold.plans import check_plan, parts_of
from tests.trees import flat, grown, height, job, jobs, one_of_each_word, runs

EXAMPLE = (("job", 4, "gives", 1, 0, None), ("job", 9, "gives", 2, 3, None), ("race", (0, 1)))
LISTS = ("all", "race", "any", "sequence", "pool")


def many(word, parts):
    """A tree of one of the words that take a row of parts."""
    return ("pool", 2, parts) if word == "pool" else (word, parts)


def around(word, tree):
    """A tree one deeper than the tree, with one of the words that have parts."""
    if word in LISTS:
        return many(word, (tree,))
    return {"timeout": ("timeout", 1, tree), "orelse": ("orelse", tree, job()), "retry": ("retry", 0, 0, tree)}[word]


def is_grown(nodes):
    """Whether nodes within their bounds are a plan, found from the last node downwards."""
    if not nodes:
        return False
    tree = grown(nodes, len(nodes) - 1)
    if tree is None or flat(tree) != nodes:
        return False
    return len(nodes) <= 40 and height(tree) <= 8 and runs(tree) <= 60


def sample_trees():
    """Trees of one to ten jobs, with all nine words."""
    trees = [job(), job(0, "throws", 0, 100, 999), one_of_each_word()]
    for word in LISTS:
        trees.extend([many(word, jobs(count)) for count in range(1, 7)])
    trees.append(("timeout", 5, job()))
    trees.append(("orelse", *jobs(2)))
    trees.append(("retry", 2, 3, job()))
    trees.append(("orelse", ("retry", 2, 3, ("all", jobs(3))), ("timeout", 5, ("pool", 2, jobs(4)))))
    trees.append(("all", (("race", jobs(2)), job(value=7), ("any", (job(value=8), ("sequence", jobs(3)), job())))))
    trees.append(("retry", 1, 0, ("sequence", (("orelse", *jobs(2)), ("orelse", *jobs(2)), ("race", jobs(6))))))
    return trees


def with_part(node, place, index):
    """The node with another index at a place among its parts."""
    parts = list(parts_of(node))
    parts[place] = index
    if node[0] == "orelse":
        return ("orelse", *parts)
    if node[0] in ("timeout", "retry"):
        return (*node[:-1], *parts)
    return (*node[:-1], tuple(parts))


def disordered(plan):
    """The plan with a node taken out, doubled, exchanged with its neighbour; with an index one more or one less."""
    for at, node in enumerate(plan):
        before, after = plan[:at], plan[at + 1:]
        yield before + after
        yield before + (node, node) + after
        if after:
            yield before + (after[0], node) + after[1:]
        for place, index in enumerate(parts_of(node)):
            yield before + (with_part(node, place, index + 1),) + after
            yield before + (with_part(node, place, index - 1),) + after


class CheckPlanTest(unittest.TestCase):
    def accepted(self, plan):
        try:
            self.assertIsNone(check_plan(plan))
        except OutOfRange:
            self.fail(f"refused: {plan}")

    def refused(self, plan):
        with self.assertRaises(OutOfRange, msg=plan) as caught:
            check_plan(plan)
        self.assertEqual(caught.exception.name, "plan")

    def judged(self, plan, is_plan):
        if is_plan:
            self.accepted(plan)
        else:
            self.refused(plan)


class OrderTest(CheckPlanTest):
    def test_example(self):
        self.assertEqual(flat(("race", (job(4, "gives", 1), job(9, "gives", 2, 3)))), EXAMPLE)
        self.accepted(EXAMPLE)

    def test_no_nodes(self):
        self.refused(())

    def test_samples(self):
        for tree in sample_trees():
            self.accepted(flat(tree))

    def test_samples_put_out_of_order(self):
        verdicts = []
        for tree in sample_trees():
            for plan in disordered(flat(tree)):
                verdicts.append(is_grown(plan))
                self.judged(plan, verdicts[-1])
        self.assertGreater(verdicts.count(True), 10)
        self.assertGreater(verdicts.count(False), 300)

    def test_all_short_rows_of_nodes(self):
        indexes = range(-1, 4)
        nodes = [job()]
        for index in indexes:
            nodes.extend([("all", (index,)), ("timeout", 3, index)])
        for one, two in itertools.product(indexes, indexes):
            nodes.extend([("race", (one, two)), ("orelse", one, two)])
        for length in range(1, 3):
            for plan in itertools.product(nodes, repeat=length):
                self.judged(plan, is_grown(plan))
        for end in nodes:
            for middle in nodes:
                plan = (job(), middle, end)
                self.judged(plan, is_grown(plan))

    def test_parts_in_another_order(self):
        row = jobs(3)
        for parts in itertools.permutations(range(3)):
            self.judged(row + (("all", parts),), parts == (0, 1, 2))
        self.refused(jobs(2) + (("orelse", 1, 0),))

    def test_a_part_of_two_nodes(self):
        self.refused((job(), ("all", (0, 0))))
        self.refused((job(), ("orelse", 0, 0)))
        self.refused((job(), ("timeout", 1, 0), ("all", (0, 1))))
        self.refused((job(), ("timeout", 1, 0), ("timeout", 1, 0)))

    def test_nodes_that_are_parts_of_none(self):
        self.refused(jobs(2))
        self.refused(jobs(3) + (("all", (1, 2)),))
        self.refused(jobs(3) + (("all", (0, 1)),))
        self.refused(jobs(3) + (("all", (0, 2)),))

    def test_parts_that_do_not_stand_before_the_node(self):
        self.refused((("timeout", 1, 0),))
        self.refused((("timeout", 1, 1), job()))
        self.refused((job(), ("timeout", 1, 1)))
        self.refused((job(), ("timeout", 1, 2)))
        self.refused((("race", (1, 2)), job(), job()))

    def test_indexes_from_the_end(self):
        self.refused((job(), ("timeout", 1, -1)))
        self.refused((job(), ("timeout", 1, -2)))
        self.refused(jobs(2) + (("all", (-2, -1)),))
        self.refused(jobs(2) + (("all", (-3, -2)),))
        self.refused(jobs(2) + (("orelse", -3, -2),))

    def test_a_part_is_referred_to_by_its_last_node(self):
        inner = (job(), ("timeout", 1, 0))
        self.accepted(inner + (("timeout", 1, 1),))
        self.refused(inner + (("timeout", 1, 0),))
        self.accepted(inner + (job(), ("all", (1, 2))))
        self.refused(inner + (job(), ("all", (0, 2))))
        self.accepted((job(), job(), ("timeout", 1, 1), ("all", (0, 2))))
        self.refused((job(), job(), ("timeout", 1, 0), ("all", (1, 2))))


class BoundsTest(CheckPlanTest):
    def numbers(self, least, most, plan_with):
        for number in (least, least + 1, most - 1, most):
            self.accepted(plan_with(number))
        for number in (least - 2, least - 1, most + 1, most + 2, 10 ** 9):
            self.refused(plan_with(number))

    def test_numbers_of_a_job(self):
        for word in ("gives", "throws"):
            for fault in (None, 0, 999):
                self.numbers(0, 1000, lambda number: (job(number, word, 1, 0, fault),))
                self.numbers(0, 999, lambda number: (job(1, word, number, 0, fault),))
                self.numbers(0, 100, lambda number: (job(1, word, 1, number, fault),))
            self.numbers(0, 999, lambda number: (job(1, word, 1, 0, number),))
            self.accepted((job(1, word, 1, 0, None),))

    def test_sizes(self):
        self.numbers(1, 6, lambda number: flat(("pool", number, jobs(3))))
        self.accepted(flat(("pool", 6, jobs(1))))
        self.accepted(flat(("pool", 1, jobs(6))))

    def test_ticks(self):
        self.numbers(0, 1000, lambda number: flat(("timeout", number, job())))

    def test_retries_and_delays(self):
        self.numbers(0, 5, lambda number: flat(("retry", number, 0, job())))
        self.numbers(0, 100, lambda number: flat(("retry", 0, number, job())))
        self.numbers(0, 100, lambda number: flat(("retry", 5, number, job())))

    def test_a_bound_is_broken_anywhere(self):
        jobs_of_a_plan = [job(value=value) for value in range(5)]
        for at in range(5):
            parts = list(jobs_of_a_plan)
            parts[at] = job(value=1000)
            self.refused(flat(("timeout", 3, ("sequence", tuple(parts)))))
        self.refused(flat(("timeout", 3, ("timeout", 1001, ("timeout", 3, job())))))

    def test_how_many_parts(self):
        for word in LISTS:
            for count in range(1, 7):
                self.accepted(flat(many(word, jobs(count))))
            for count in (0, 7, 8):
                self.refused(flat(many(word, jobs(count))))
            self.refused((job(), many(word, ())))
            self.refused((job(), many(word, ()), ("all", (0, 1))))

    def test_depth(self):
        for word in ("all", "race", "any", "pool", "timeout", "sequence", "orelse", "retry"):
            tree = job()
            for depth in range(2, 9):
                tree = around(word, tree)
                self.assertEqual(height(tree), depth)
                self.accepted(flat(tree))
            self.refused(flat(around(word, tree)))
            self.refused(flat(around(word, around(word, tree))))

    def test_depth_of_any_part(self):
        tree = job()
        for _ in range(7):
            tree = ("timeout", 1, tree)
        self.accepted(flat(tree))
        for at in range(3):
            parts = list(jobs(3))
            parts[at] = tree
            self.refused(flat(("race", tuple(parts))))
        self.refused(flat(("orelse", tree, job())))
        self.refused(flat(("orelse", job(), tree)))

    def test_job_runs(self):
        sixty = ("retry", 4, 0, ("retry", 5, 0, ("all", jobs(2))))
        self.accepted(flat(sixty))
        self.refused(flat(("sequence", (sixty, job()))))
        self.refused(flat(("orelse", job(), sixty)))

    def test_job_runs_of_retries_beside_other_jobs(self):
        seven = ("all", (("retry", 5, 0, job()), job()))
        parts = (("retry", 5, 0, ("race", (seven, job()))), ("any", jobs(6)), ("any", jobs(6)))
        self.assertEqual(runs(("all", parts)), 60)
        self.accepted(flat(("all", parts)))
        self.refused(flat(("all", parts + (job(),))))

    def test_job_runs_of_retries_within_one_another(self):
        for one, two, three in itertools.product(range(6), repeat=3):
            tree = ("retry", one, 0, ("retry", two, 0, ("all", (("retry", three, 0, job()), job()))))
            self.judged(flat(tree), (one + 1) * (two + 1) * (three + 2) <= 60)

    def test_nodes(self):
        groups = [("any", jobs(6))] * 3 + [("any", jobs(5))] * 3
        forty = flat(("all", tuple(groups)))
        self.assertEqual(len(forty), 40)
        self.accepted(forty)
        groups[-1] = ("any", jobs(6))
        more = flat(("all", tuple(groups)))
        self.assertEqual(len(more), 41)
        self.refused(more)
        groups[-1] = ("any", jobs(4) + (("timeout", 1, job()),))
        self.assertEqual(len(flat(("all", tuple(groups)))), 41)
        self.refused(flat(("all", tuple(groups))))


class ShapeTest(CheckPlanTest):
    def test_words(self):
        for word in ("", "jobs", "Job", "each", "pools", "gives"):
            self.refused(((word, 1, "gives", 1, 0, None),))
            self.refused((job(), (word, (0,))))
        for word in ("", "give", "Gives", "throw", "+", None, 1):
            self.refused((("job", 1, word, 1, 0, None),))

    def test_lengths_of_nodes(self):
        for tree in sample_trees():
            plan = flat(tree)
            self.refused(plan[:-1] + (plan[-1][:-1],))
            self.refused(plan[:-1] + (plan[-1] + (0,),))
            self.refused(plan[:-1] + ((),))
            self.refused(plan[:-1] + (plan[-1][:1],))

    def test_other_values_in_place_of_integers(self):
        for value in (None, "1", (1,), [1], True, False, 1.0):
            self.refused((("job", value, "gives", 1, 0, None),))
            self.refused((("job", 1, "gives", value, 0, None),))
            self.refused((("job", 1, "gives", 1, value, None),))
            self.refused((job(), ("timeout", value, 0)))
            self.refused((job(), ("pool", value, (0,))))
            self.refused((job(), ("retry", value, 0, 0)))
            self.refused((job(), ("retry", 0, value, 0)))
            self.refused((job(), ("timeout", 1, value)))
            self.refused((job(), ("all", (value,))))
            self.refused((job(), ("orelse", 0, value)))
            if value is not None:
                self.refused((job(fault=value),))

    def test_other_values_in_place_of_tuples(self):
        self.refused((job(), ("all", 0)))
        self.refused((job(), ("all", [0])))
        self.refused((job(), ("all", None)))
        self.refused((job(), ("timeout", 1, (0,))))
        self.refused((list(job()),))
        self.refused([job()])
        self.refused((None,))
        self.refused(("job",))
        self.refused(job())
        self.refused(((["job"], 1, "gives", 1, 0, None),))


if __name__ == "__main__":
    unittest.main()
