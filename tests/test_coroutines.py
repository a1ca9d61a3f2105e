import copy
import unittest

from asforetold.coroutines import resume_node

DEADLINE = "deadline exceeded"
VALUES = (None, (), (7,), (7, 8, 9))
ERRORS = ((5,), (DEADLINE,), (5, DEADLINE, 6))
RETURN = ("return",)


def answers():
    """Answers of every kind."""
    return [("next", value) for value in VALUES] + [("throw", errors) for errors in ERRORS] + [RETURN]


def single(part):
    return ("scope", "single", None, (part,))


class NodeTest(unittest.TestCase):
    def gives(self, node, step, answer, result, behind):
        kept = copy.deepcopy((node, answer))
        self.assertEqual(resume_node(node, step, answer), (result, behind), (node, step, answer))
        self.assertEqual((node, answer), kept)

    def passes_on(self, node, step, *kinds):
        """Behind this step a node makes nothing else of the answers of these kinds."""
        if "next" in kinds:
            for value in VALUES:
                self.gives(node, step, ("next", value), ("done", value), step)
        if "throw" in kinds:
            for errors in ERRORS:
                self.gives(node, step, ("throw", errors), ("throws", errors), step)
        if "return" in kinds:
            self.gives(node, step, RETURN, ("done", None), step)


class JobTest(NodeTest):
    def test_first_it_takes_its_time(self):
        for answer in answers():
            self.gives(("job", 5, "gives", 1, 3, 9), 0, answer, ("sleep", 5), 1)
            self.gives(("job", 0, "throws", 1, 0, None), 0, answer, ("sleep", 0), 1)
            self.gives(("job", 1000, "throws", 1, 0, None), 0, answer, ("sleep", 1000), 1)

    def test_then_it_ends(self):
        for value in VALUES:
            self.gives(("job", 5, "gives", 1, 3, 9), 1, ("next", value), ("done", (1,)), 3)
            self.gives(("job", 5, "gives", 0, 3, None), 1, ("next", value), ("done", (0,)), 3)
            self.gives(("job", 5, "throws", 1, 3, 9), 1, ("next", value), ("throws", (1,)), 3)
            self.gives(("job", 5, "throws", 0, 3, None), 1, ("next", value), ("throws", (0,)), 3)

    def test_errors(self):
        for errors in ERRORS:
            self.gives(("job", 5, "gives", 1, 3, 9), 1, ("throw", errors), ("throws", errors), 3)
            self.gives(("job", 5, "throws", 1, 0, None), 1, ("throw", errors), ("throws", errors), 3)

    def test_cleanup(self):
        self.gives(("job", 5, "gives", 1, 3, 9), 1, RETURN, ("sleep", 3), 2)
        self.gives(("job", 5, "throws", 1, 0, None), 1, RETURN, ("sleep", 0), 2)
        for answer in answers():
            self.gives(("job", 5, "gives", 1, 3, 9), 2, answer, ("throws", (9,)), 3)
            self.gives(("job", 5, "throws", 1, 3, 0), 2, answer, ("throws", (0,)), 3)
            self.gives(("job", 5, "gives", 1, 3, None), 2, answer, ("done", None), 3)
            self.gives(("job", 5, "throws", 1, 0, None), 2, answer, ("done", None), 3)


class GroupTest(NodeTest):
    NODES = (
        (("all", (0, 1, 2)), ("scope", "all", None, (0, 1, 2))),
        (("race", (3,)), ("scope", "race", None, (3,))),
        (("any", (0, 4)), ("scope", "any", None, (0, 4))),
        (("pool", 2, (0, 1, 2)), ("scope", ("pool", 2), None, (0, 1, 2))),
        (("pool", 6, (5,)), ("scope", ("pool", 6), None, (5,))),
        (("timeout", 7, 3), ("scope", "single", 7, (3,))),
        (("timeout", 0, 0), ("scope", "single", 0, (0,))),
    )

    def test_first_the_scope_is_opened(self):
        for node, scope in self.NODES:
            for answer in answers():
                self.gives(node, 0, answer, scope, 1)

    def test_then_a_throw_and_a_return_are_passed_on(self):
        for node, _ in self.NODES:
            self.passes_on(node, 1, "throw", "return")

    def test_one_value(self):
        for node, _ in self.NODES:
            if node[0] in ("race", "any", "timeout"):
                self.passes_on(node, 1, "next")

    def test_the_values_of_all_parts(self):
        for node, _ in self.NODES:
            if node[0] in ("all", "pool"):
                self.gives(node, 1, ("next", None), ("done", None), 1)
                self.gives(node, 1, ("next", ((7,),)), ("done", (7,)), 1)
                self.gives(node, 1, ("next", ((7,), (1, 2), (), (9, 0))), ("done", (7, 1, 2, 9, 0)), 1)
                self.gives(node, 1, ("next", ()), ("done", ()), 1)


class SequenceTest(NodeTest):
    NODE = ("sequence", (2, 4, 7))

    def test_one_part_after_another(self):
        for answer in answers():
            self.gives(self.NODE, 0, answer, single(2), 1)
        for value in VALUES:
            self.gives(self.NODE, 1, ("next", value), single(4), 2)
            self.gives(self.NODE, 2, ("next", value), single(7), 3)

    def test_the_end(self):
        self.passes_on(self.NODE, 3, "next", "throw", "return")
        self.passes_on(("sequence", (0,)), 1, "next", "throw", "return")

    def test_a_throw_and_a_return_before_the_end(self):
        for step in (1, 2):
            self.passes_on(self.NODE, step, "throw", "return")


class OrelseTest(NodeTest):
    NODE = ("orelse", 1, 4)

    def test_the_first_part(self):
        for answer in answers():
            self.gives(self.NODE, 0, answer, single(1), 1)
        self.passes_on(self.NODE, 1, "next", "return")

    def test_the_second_part(self):
        for errors in ERRORS:
            self.gives(self.NODE, 1, ("throw", errors), single(4), 2)
        self.passes_on(self.NODE, 2, "next", "throw", "return")


class RetryTest(NodeTest):
    NODE = ("retry", 2, 9, 4)

    def test_first_the_part_is_run(self):
        for answer in answers():
            self.gives(self.NODE, 0, answer, single(4), 1)
            self.gives(("retry", 0, 0, 3), 0, answer, single(3), 1)

    def test_a_delay_behind_each_run_that_fails(self):
        for errors in ERRORS:
            self.gives(self.NODE, 1, ("throw", errors), ("sleep", 9), 2)
            self.gives(self.NODE, 3, ("throw", errors), ("sleep", 9), 4)
            self.gives(("retry", 1, 0, 3), 1, ("throw", errors), ("sleep", 0), 2)
            self.gives(("retry", 5, 0, 3), 9, ("throw", errors), ("sleep", 0), 10)

    def test_behind_a_delay_the_part_is_run_again(self):
        for value in VALUES:
            self.gives(self.NODE, 2, ("next", value), single(4), 3)
            self.gives(self.NODE, 4, ("next", value), single(4), 5)

    def test_the_errors_of_the_last_run_are_thrown_on(self):
        self.passes_on(self.NODE, 5, "throw")
        self.passes_on(("retry", 0, 7, 3), 1, "throw")
        self.passes_on(("retry", 5, 7, 3), 11, "throw")

    def test_a_run_that_does_not_fail(self):
        for step in (1, 3, 5):
            self.passes_on(self.NODE, step, "next", "return")

    def test_a_throw_and_a_return_behind_a_delay(self):
        for step in (2, 4):
            self.passes_on(self.NODE, step, "throw", "return")


if __name__ == "__main__":
    unittest.main()
