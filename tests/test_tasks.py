import itertools
import random
import unittest

from asforetold.tasks import Scope, Task, scope_answer

DEADLINE = "deadline exceeded"
MODES = ("single", "all", "race", "any", ("pool", 1), ("pool", 6))
TASK_FIELDS = (
    "path", "place", "state", "ended", "outcome", "result", "mark", "step", "answer", "wake", "scopes", "started",
    "delivered",
)
SCOPE_FIELDS = ("path", "mode", "deadline", "parts", "closed", "timed_out")


def fields(made, names):
    return tuple([getattr(made, name) for name in names])


def ended(number, end):
    """A task that has ended so: (instant, outcome, result, mark)."""
    instant, outcome, result, mark = end
    return Task((0, 0, number), number, "finished", instant, outcome, result, mark)


class TaskTest(unittest.TestCase):
    def test_the_fewest_arguments(self):
        self.assertEqual(
            fields(Task((0, 1, 2), 5), TASK_FIELDS),
            ((0, 1, 2), 5, "created", None, None, None, None, 0, ("next", None), None, 0, None, False),
        )

    def test_all_arguments(self):
        self.assertEqual(
            fields(Task((3,), 7, "finished", (4, 2), "failed", (5, DEADLINE), (3, 1)), TASK_FIELDS),
            ((3,), 7, "finished", (4, 2), "failed", (5, DEADLINE), (3, 1), 0, ("next", None), None, 0, None, False),
        )

    def test_arguments_by_name(self):
        task = Task(path=(3,), place=7, mark=(3, 1), result=(5,), outcome="completed", ended=(4, 2), state="finished")
        self.assertEqual(
            fields(task, TASK_FIELDS),
            ((3,), 7, "finished", (4, 2), "completed", (5,), (3, 1), 0, ("next", None), None, 0, None, False),
        )

    def test_duplicate(self):
        for task in (Task((0, 1, 2), 5), Task((3,), 7, "finished", (4, 2), "failed", (5,), (3, 1))):
            values = (
                (9, 9, 9), 8, "sleeping", (1, 1), "cancelled", (), (0, 4), 3, ("throw", (2,)), 17, 4, (1, 0), True,
            )
            for at, name in [(None, None), *enumerate(TASK_FIELDS)]:
                if name is not None:
                    setattr(task, name, values[at])
                other = task.duplicate()
                self.assertIsInstance(other, Task)
                self.assertIsNot(other, task)
                self.assertEqual(fields(other, TASK_FIELDS), fields(task, TASK_FIELDS))

    def test_a_duplicate_changes_by_itself(self):
        task = Task((0,), 5)
        other = task.duplicate()
        other.step = 9
        other.state = "ready"
        self.assertEqual((task.step, task.state), (0, "created"))

    def test_alive(self):
        for state in ("created", "ready", "sleeping", "joining"):
            self.assertIs(Task((0,), 1, state).is_alive(), True)
        for outcome, result in (("completed", (1,)), ("failed", (1,)), ("cancelled", ())):
            self.assertIs(Task((0,), 1, "finished", (0, 0), outcome, result).is_alive(), False)


class ScopeTest(unittest.TestCase):
    def test_the_fewest_arguments(self):
        self.assertEqual(
            fields(Scope((0, 1), ("pool", 2), None, 4), SCOPE_FIELDS), ((0, 1), ("pool", 2), None, 4, None, False),
        )

    def test_all_arguments(self):
        for scope in (
            Scope((3, 0), "single", 17, 1, (4, 2), True),
            Scope(path=(3, 0), mode="single", deadline=17, parts=1, closed=(4, 2), timed_out=True),
        ):
            self.assertEqual(fields(scope, SCOPE_FIELDS), ((3, 0), "single", 17, 1, (4, 2), True))

    def test_duplicate(self):
        scope = Scope((0, 1), "all", None, 4)
        values = ((7, 7), ("pool", 3), 5, 6, (1, 2), True)
        for at, name in [(None, None), *enumerate(SCOPE_FIELDS)]:
            if name is not None:
                setattr(scope, name, values[at])
            other = scope.duplicate()
            self.assertIsInstance(other, Scope)
            self.assertIsNot(other, scope)
            self.assertEqual(fields(other, SCOPE_FIELDS), fields(scope, SCOPE_FIELDS))


def answer_told(mode, timed_out, ends):
    """The answer that point 20 tells, in its own order."""
    completed = sorted([(instant, at) for at, (instant, outcome, _, _) in enumerate(ends) if outcome == "completed"])
    errors = [DEADLINE] if timed_out else []
    for _, outcome, result, mark in ends:
        if outcome == "failed" and not (mode == "any" and completed and mark is None):
            errors.extend(result)
    if errors:
        return ("throw", tuple(errors))
    if mode == "all" or mode[0] == "pool":
        return ("next", tuple([result for _, _, result, _ in ends]) if len(completed) == len(ends) else None)
    return ("next", ends[completed[0][1]][2] if completed else None)


class AnswerTest(unittest.TestCase):
    def answers(self, mode, expected, *ends, timed_out=False):
        scope = Scope((0, 0), mode, None, len(ends), timed_out=timed_out)
        tasks = [ended(number, end) for number, end in enumerate(ends)]
        before = [fields(task, TASK_FIELDS) for task in tasks]
        self.assertEqual(scope_answer(scope, tasks), expected, (mode, timed_out, ends))
        self.assertEqual([fields(task, TASK_FIELDS) for task in tasks], before)
        self.assertEqual(answer_told(mode, timed_out, ends), expected)

    ONE = ((4, 0), "completed", (1, 2), None)
    TWO = ((3, 1), "completed", (7,), None)
    SAME = ((3, 1), "completed", (8,), None)
    FAILED = ((2, 0), "failed", (5,), None)
    MARKED = ((9, 0), "failed", (6, DEADLINE), (3, 1))
    STOPPED = ((3, 2), "cancelled", (), (3, 1))

    def test_values_of_all(self):
        for mode in ("all", ("pool", 2)):
            self.answers(mode, ("next", ((1, 2), (7,))), self.ONE, self.TWO)
            self.answers(mode, ("next", ((7,),)), self.TWO)
            self.answers(mode, ("next", None), self.ONE, self.STOPPED)
            self.answers(mode, ("next", None), self.STOPPED)

    def test_the_value_of_the_earliest(self):
        for mode in ("single", "race", "any"):
            self.answers(mode, ("next", (7,)), self.ONE, self.TWO)
            self.answers(mode, ("next", (7,)), self.TWO, self.ONE, self.SAME)
            self.answers(mode, ("next", (8,)), self.ONE, self.SAME, self.TWO)
            self.answers(mode, ("next", (1, 2)), self.STOPPED, self.ONE)
            self.answers(mode, ("next", None), self.STOPPED, self.STOPPED)

    def test_errors(self):
        for mode in ("single", "all", "race", ("pool", 3)):
            self.answers(mode, ("throw", (5,)), self.ONE, self.FAILED)
            self.answers(mode, ("throw", (6, DEADLINE, 5)), self.MARKED, self.STOPPED, self.FAILED)

    def test_errors_of_any(self):
        self.answers("any", ("next", (1, 2)), self.FAILED, self.ONE)
        self.answers("any", ("throw", (6, DEADLINE)), self.FAILED, self.ONE, self.MARKED)
        self.answers("any", ("throw", (5, 6, DEADLINE)), self.FAILED, self.STOPPED, self.MARKED)
        self.answers("any", ("throw", (5, 5)), self.FAILED, self.FAILED)

    def test_the_deadline(self):
        for mode in MODES:
            self.answers(mode, ("throw", (DEADLINE,)), self.STOPPED, timed_out=True)
            self.answers(mode, ("throw", (DEADLINE,)), self.ONE, timed_out=True)
            self.answers(mode, ("throw", (DEADLINE, 6, DEADLINE)), self.MARKED, self.STOPPED, timed_out=True)
        self.answers("any", ("throw", (DEADLINE,)), self.ONE, self.FAILED, timed_out=True)

    def test_all_rows_of_up_to_three_tasks(self):
        kinds = (self.ONE, self.TWO, self.FAILED, self.MARKED, self.STOPPED)
        for many in (1, 2, 3):
            for ends in itertools.product(kinds, repeat=many):
                for mode in MODES:
                    for timed_out in (False, True):
                        self.answers(mode, answer_told(mode, timed_out, ends), *ends, timed_out=timed_out)

    def test_rows_of_up_to_six_tasks(self):
        dice = random.Random(61)
        for _ in range(2000):
            ends = []
            for _ in range(dice.randint(4, 6)):
                outcome = dice.choice(("completed", "completed", "failed", "cancelled"))
                result = () if outcome == "cancelled" else tuple([dice.randrange(9) for _ in range(dice.randint(1, 3))])
                mark = dice.choice((None, (2, 0)))
                ends.append(((dice.randrange(4), dice.randrange(3)), outcome, result, mark))
            mode = dice.choice(MODES)
            timed_out = dice.random() < 0.2
            self.answers(mode, answer_told(mode, timed_out, ends), *ends, timed_out=timed_out)


if __name__ == "__main__":
    unittest.main()
