"""Schedulers with plans beside one another: settling steps, runs and choices, and that all is as foretold."""

import random
import unittest

from asforetold.foretelling import predict
from asforetold.paths import is_above
from asforetold.plans import longest_cleanup
from asforetold.scheduler import Scheduler
from tests.trees import flat, one_of_each_word, random_plans

PLANS = random_plans(71, 400) + random_plans(72, 60, 8) + [flat(one_of_each_word())]


class Driver:
    """A scheduler that is driven by dice, with what was done and seen."""

    def __init__(self, dice, most):
        self.dice = dice
        self.most = most
        self.scheduler = Scheduler(100)
        self.requested = []
        self.seen = []

    def spawn_and_cancel(self):
        """Now and then spawn a plan or request a cancellation."""
        count = self.scheduler.root_count()
        if count < self.most and (count == 0 or self.dice.random() < 0.1):
            self.scheduler.spawn(self.dice.choice(PLANS))
            self.requested.append(False)
        if self.dice.random() < 0.06:
            root = self.dice.randrange(len(self.requested))
            self.requested[root] = self.scheduler.cancel(root) or self.requested[root]

    def is_over(self):
        over = not self.scheduler.ready() and self.scheduler.next_event() is None
        return over and self.scheduler.root_count() == self.most

    def steps(self):
        """Resume ready tasks in any order, settle and advance, until all has ended; yield before each settling step."""
        for _ in range(5000):
            self.spawn_and_cancel()
            ready = self.scheduler.ready()
            if ready:
                self.scheduler.resume(self.dice.randrange(len(ready)))
                self.look()
                continue
            yield self.scheduler
            # The one who is asked in between may have made the step already.
            if not self.scheduler.ready() and not self.scheduler.settle():
                if self.is_over():
                    return
                self.scheduler.advance(self.dice.choice((0, 1, 1, 2, 7, 1000)))
            self.look()
        raise AssertionError("this does not end")

    def look(self):
        """Remember now and then which entries are there."""
        if self.dice.random() < 0.05:
            root = self.dice.randrange(self.scheduler.root_count())
            self.seen.append((root, self.scheduler.completion(root), self.scheduler.trace(root)))


def drivers(seed, many):
    for number in range(many):
        yield Driver(random.Random(f"{seed} {number}"), 1 + number % 4)


def parts_of_scope(scheduler, path):
    """The paths of the tasks of a scope."""
    parts = []
    while scheduler.task(path + (len(parts),)) is not None:
        parts.append(path + (len(parts),))
    return parts


def told(scheduler, requested):
    """What points 23 and 24 tell of a settling step: the roots, scopes and tasks that are cancelled, closed, marked."""
    roots = [
        (root,) for root, wanted in enumerate(requested)
        if wanted and scheduler.cancelled(root) is None and scheduler.completion(root) is None
    ]
    outcomes = {entry[0]: entry[3] for root in range(len(requested)) for entry in scheduler.trace(root)}
    closed = []
    tasks = [(root,) for root in range(len(requested))]
    for path, mode, deadline, at in scheduler.scopes():
        parts = parts_of_scope(scheduler, path)
        tasks.extend(parts)
        found = [outcomes.get(part) for part in parts]
        reason = deadline is not None and deadline <= scheduler.clock()[0]
        reason = reason or (mode == "race" and found != [None] * len(found))
        reason = reason or (mode == "any" and "completed" in found)
        reason = reason or ((mode == "all" or mode[0] == "pool") and "failed" in found)
        if at is None and (reason or any(is_above(top, path) for top in roots + closed)):
            closed.append(path)
    marked = [
        task for task in tasks if task not in outcomes and scheduler.task(task)[1] is None
        and (task in roots or any(is_above(top, task) for top in roots + closed))
    ]
    return roots, closed, marked


class SettleTest(unittest.TestCase):
    def test_each_settling_step(self):
        closings = 0
        for driver in drivers("settle", 250):
            for scheduler in driver.steps():
                roots, closed, marked = told(scheduler, driver.requested)
                clock = scheduler.clock()
                states = {path: scheduler.task(path)[0] for path in marked}
                before = scheduler.state()
                changed = scheduler.settle()
                self.assertIs(changed, roots + closed != [])
                if not changed:
                    self.assertEqual(scheduler.state(), before)
                    continue
                closings += 1
                self.assertEqual(scheduler.clock(), (clock[0], clock[1] + 1))
                for root in roots:
                    self.assertEqual(scheduler.cancelled(root[0]), clock)
                scopes = {row[0]: row[3] for row in scheduler.scopes()}
                closed_now = [path for path, at in scopes.items() if at == clock]
                self.assertEqual(closed_now, [path for path in closed if path in scopes])
                self.marked(scheduler, clock, states)
        self.assertGreater(closings, 300)

    def marked(self, scheduler, clock, states):
        """What has become of the tasks that were in these states when they got their marks."""
        for path, state in states.items():
            after, mark, delivered = scheduler.task(path)
            self.assertEqual((mark, delivered), (clock, False))
            if state == "sleeping":
                self.assertEqual(after, "ready")
            elif state == "created":
                self.assertEqual(after, "finished")
                entry = [entry for entry in scheduler.trace(path[0]) if entry[0] == path][0]
                self.assertEqual(entry[1:], (None, scheduler.clock(), "cancelled", ()))
            else:
                self.assertEqual(state, "joining")
                self.assertIn(after, ("joining", "ready"))

    def test_no_other_task_gets_a_mark(self):
        for driver in drivers("marks", 60):
            for scheduler in driver.steps():
                marked = told(scheduler, driver.requested)[2]
                paths = alive_paths(scheduler)
                before = {path: scheduler.task(path) for path in paths}
                scheduler.settle()
                for path in paths:
                    if path not in marked:
                        self.assertEqual(scheduler.task(path)[1], before[path][1])
                        if scheduler.task(path)[0] != before[path][0]:
                            # Its last parts were created ones.
                            self.assertEqual((before[path][0], scheduler.task(path)[0]), ("joining", "ready"))

    def test_marks_and_deliveries_stay(self):
        for driver in drivers("deliveries", 60):
            known = {}
            for scheduler in driver.steps():
                for path in alive_paths(scheduler):
                    _, mark, delivered = scheduler.task(path)
                    before = known.get(path, (None, False))
                    self.assertIn(before[0], (None, mark))
                    self.assertGreaterEqual(delivered, before[1])
                    self.assertFalse(delivered and mark is None)
                    known[path] = (mark, delivered)


def alive_paths(scheduler):
    """The paths of all tasks that have not ended."""
    paths = [(root,) for root in range(scheduler.root_count())]
    for row in scheduler.scopes():
        paths.extend(parts_of_scope(scheduler, row[0]))
    return [path for path in paths if scheduler.task(path)[0] != "finished"]


class ForetoldTest(unittest.TestCase):
    def test_each_root_runs_as_foretold(self):
        cancelled = 0
        for driver in drivers("foretold", 400):
            for scheduler in driver.steps():
                pass
            scheduler = driver.scheduler
            for root in range(scheduler.root_count()):
                applied = scheduler.cancelled(root)
                cancelled += applied is not None
                expected = predict(scheduler.plan(root), (root,), scheduler.started(root), applied)
                self.assertEqual((*scheduler.completion(root), scheduler.trace(root)), expected)
            for root, completion, trace in driver.seen:
                self.assertEqual(completion is None, (root,) not in [entry[0] for entry in trace])
                self.assertEqual(list(trace), [entry for entry in scheduler.trace(root) if entry in trace])
        self.assertGreater(cancelled, 100)

    def test_every_plan_alone(self):
        for number, plan in enumerate(PLANS):
            dice = random.Random(number)
            scheduler = Scheduler(longest_cleanup(plan))
            scheduler.spawn(plan)
            choices = [dice.randrange(50) for _ in range(dice.randrange(6))]
            scheduler.run(dice.randrange(12), choices)
            if number % 3 > 0:
                scheduler.cancel(0)
            while scheduler.completion(0) is None:
                scheduler.run(1000, choices)
            expected = predict(plan, (0,), (0, 0), scheduler.cancelled(0))
            self.assertEqual((*scheduler.completion(0), scheduler.trace(0)), expected)

    def test_without_an_event_nothing_is_alive(self):
        for driver in drivers("events", 60):
            for scheduler in driver.steps():
                event = scheduler.next_event()
                alive = [root for root in range(scheduler.root_count()) if scheduler.completion(root) is None]
                if event is not None:
                    self.assertGreater(event, scheduler.clock()[0])
                elif not any(told(scheduler, driver.requested)):
                    self.assertEqual(alive, [])
                    self.assertEqual(scheduler.scopes(), [])


def stepped(scheduler, ticks, choices):
    """What a run does, by resume, settle and advance."""
    until = scheduler.clock()[0] + ticks
    resumed = 0
    while True:
        ready = scheduler.ready()
        if ready:
            scheduler.resume(choices[resumed % len(choices)] % len(ready) if choices else 0)
            resumed += 1
        elif not scheduler.settle():
            event = scheduler.next_event()
            if event is None or event > until:
                scheduler.advance(until - scheduler.clock()[0])
                return scheduler.clock()
            scheduler.advance(event - scheduler.clock()[0])


def scripts(seed, many):
    """Rows of deeds: plans to spawn, roots to cancel, and ticks to run."""
    for number in range(many):
        dice = random.Random(f"{seed} {number}")
        deeds = [("spawn", dice.choice(PLANS))]
        roots = 1
        for _ in range(dice.randint(2, 12)):
            word = dice.choice(("spawn", "cancel", "run", "run", "run"))
            if word == "spawn" and roots < 4:
                deeds.append(("spawn", dice.choice(PLANS)))
                roots += 1
            elif word == "cancel":
                deeds.append(("cancel", dice.randrange(roots)))
            else:
                deeds.append(("run", dice.choice((0, 1, 2, 3, 7, 20, 60))))
        yield dice, deeds


def some_choices(dice):
    return [dice.randrange(30) for _ in range(dice.randrange(6))]


def do_deeds(deeds, run):
    """Do the deeds on a new scheduler, the runs by a function; the states behind each of the runs."""
    scheduler = Scheduler(100)
    states = []
    for word, what in deeds:
        if word == "spawn":
            scheduler.spawn(what)
        elif word == "cancel":
            scheduler.cancel(what)
        else:
            clock = run(scheduler, what)
            roots = range(scheduler.root_count())
            ends = [(scheduler.completion(root), scheduler.trace(root), scheduler.cancelled(root)) for root in roots]
            rest = (scheduler.scopes(), scheduler.next_event(), scheduler.state())
            states.append((clock, scheduler.clock(), ends, *rest))
    return states


def in_parts(dice):
    """A function that makes one run in several ones."""
    def run(scheduler, ticks):
        rest = ticks
        while True:
            part = dice.randint(0, rest)
            clock = scheduler.run(part, some_choices(dice))
            rest -= part
            if rest == 0:
                return clock
    return run


class RunTest(unittest.TestCase):
    def test_a_run_is_made_of_its_steps(self):
        for dice, deeds in scripts("steps", 300):
            choices = some_choices(dice)
            one = do_deeds(deeds, lambda scheduler, ticks: scheduler.run(ticks, choices))
            two = do_deeds(deeds, lambda scheduler, ticks: stepped(scheduler, ticks, choices))
            self.assertEqual(one, two)

    def test_whatever_the_choices(self):
        for dice, deeds in scripts("choices", 300):
            one = do_deeds(deeds, lambda scheduler, ticks: scheduler.run(ticks, ()))
            for _ in range(2):
                two = do_deeds(deeds, lambda scheduler, ticks: scheduler.run(ticks, some_choices(dice)))
                self.assertEqual(one, two)

    def test_in_several_runs(self):
        for dice, deeds in scripts("parts", 300):
            one = do_deeds(deeds, lambda scheduler, ticks: scheduler.run(ticks, some_choices(dice)))
            two = do_deeds(deeds, in_parts(dice))
            self.assertEqual(one, two)

    def test_states_differ_where_something_is_told_differently(self):
        rows = []
        for _, deeds in scripts("states", 40):
            rows.extend(do_deeds(deeds, lambda scheduler, ticks: scheduler.run(ticks, ())))
        for one in rows:
            for two in rows:
                if one[:-1] != two[:-1]:
                    self.assertNotEqual(one[-1], two[-1])


if __name__ == "__main__":
    unittest.main()
