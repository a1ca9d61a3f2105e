"""The calls of the scheduler one by one: what they return, refuse and leave as it is."""

import copy
import unittest

from asforetold.errors import GraceTooShort, NoRoot, NotReady, NotSettled, OutOfRange, TasksReady, TooManyRoots
from asforetold.scheduler import CHOICES_MOST, GRACE_MOST, ROOTS_MOST, TICKS_MOST, Scheduler
from asforetold.sources import read_plan
from tests.trees import flat, job, jobs, lines

RACE = read_plan("race(job(4,+1,0),job(9,+2,3))")


def spawned(*texts, grace=100):
    """A scheduler with these plans."""
    scheduler = Scheduler(grace)
    for text in texts:
        scheduler.spawn(read_plan(text))
    return scheduler


class SchedulerTest(unittest.TestCase):
    def refused(self, scheduler, error, call, name=None):
        before = scheduler.state()
        with self.assertRaises(error) as caught:
            call()
        if name is not None:
            self.assertEqual(caught.exception.name, name)
        self.assertEqual(scheduler.state(), before)


class NewTest(SchedulerTest):
    def test_most(self):
        self.assertEqual((ROOTS_MOST, GRACE_MOST, TICKS_MOST, CHOICES_MOST), (8, 1000, 1000, 50))

    def test_grace(self):
        for grace in (0, 1, 999, 1000):
            self.assertEqual(Scheduler(grace).grace(), grace)
        for grace in (-1, 1001, 5000):
            with self.assertRaises(OutOfRange) as caught:
                Scheduler(grace)
            self.assertEqual(caught.exception.name, "grace")

    def test_nothing_is_there(self):
        scheduler = Scheduler(5)
        self.assertEqual(scheduler.clock(), (0, 0))
        self.assertEqual(scheduler.root_count(), 0)
        self.assertEqual((scheduler.ready(), scheduler.scopes(), scheduler.next_event()), ([], [], None))
        self.assertIs(scheduler.settle(), False)
        self.assertIsNone(scheduler.task((0,)))
        self.assertEqual(scheduler.advance(7), 7)
        self.assertEqual(scheduler.run(3, ()), (10, 0))


class SpawnTest(SchedulerTest):
    def test_roots_have_rising_numbers(self):
        scheduler = Scheduler(5)
        for number in range(8):
            self.assertEqual(scheduler.spawn(RACE), number)
            self.assertEqual(scheduler.root_count(), number + 1)
            self.assertEqual(scheduler.task((number,)), ("created", None, False))
        self.assertEqual(scheduler.ready(), [(number,) for number in range(8)])

    def test_what_is_told_of_a_root(self):
        scheduler = spawned("job(4,+1,0)")
        scheduler.run(3, ())
        self.assertEqual(scheduler.spawn(RACE), 1)
        self.assertEqual(scheduler.plan(1), RACE)
        self.assertEqual(scheduler.started(1), (3, 0))
        self.assertEqual(scheduler.started(0), (0, 0))
        self.assertIsNone(scheduler.cancelled(1))
        self.assertIsNone(scheduler.completion(1))
        self.assertEqual(scheduler.trace(1), ())
        scheduler.run(4, ())
        self.assertEqual(scheduler.completion(0), ((4, 0), "completed", (1,)))
        self.assertEqual(lines(scheduler.trace(0)), ["0 0.0 4.0 completed 1"])
        self.assertIsNone(scheduler.completion(1))
        self.assertEqual(lines(scheduler.trace(1)), ["1.0.0 3.0 7.0 completed 1"])
        scheduler.run(3, ())
        self.assertEqual(scheduler.completion(1), ((10, 0), "completed", (1,)))
        self.assertEqual(
            lines(scheduler.trace(1)),
            ["1 3.0 10.0 completed 1", "1.0.0 3.0 7.0 completed 1", "1.0.1 3.0 10.0 cancelled -"],
        )

    def test_a_root_starts_in_the_present_round(self):
        scheduler = spawned("race(job(4,+1,0),job(9,+2,3))")
        scheduler.run(4, ())
        self.assertEqual(scheduler.clock(), (4, 1))
        scheduler.spawn(read_plan("job(0,+5,0)"))
        self.assertEqual(scheduler.started(1), (4, 1))
        scheduler.run(0, ())
        self.assertEqual(scheduler.completion(1), ((4, 1), "completed", (5,)))

    def test_no_plan(self):
        scheduler = spawned("job(4,+1,0)")
        for plan in ((), RACE[:2], (*RACE, job()), (job(1001),), flat(("all", jobs(6)))[1:], (("all", (0,)),)):
            self.refused(scheduler, OutOfRange, lambda: scheduler.spawn(plan), "plan")

    def test_grace_too_short(self):
        for grace in (0, 2, 99):
            scheduler = Scheduler(grace)
            self.assertEqual(scheduler.spawn(read_plan(f"all(job(4,+1,{grace}),job(1,+1,0))")), 0)
            for text in (f"job(4,+1,{grace + 1})", f"race(job(1,+1,0),timeout(3,job(4,+1,{grace + 1})),job(1,+1,0))"):
                self.refused(scheduler, GraceTooShort, lambda: scheduler.spawn(read_plan(text)))

    def test_a_ninth_root(self):
        scheduler = spawned(*["job(4,+1,0)"] * 8, grace=3)
        self.refused(scheduler, TooManyRoots, lambda: scheduler.spawn(RACE))
        scheduler.run(100, ())
        self.refused(scheduler, TooManyRoots, lambda: scheduler.spawn(RACE))
        self.assertEqual(scheduler.root_count(), 8)

    def test_the_order_of_errors(self):
        scheduler = spawned(*["job(4,+1,0)"] * 8, grace=3)
        self.refused(scheduler, OutOfRange, lambda: scheduler.spawn((job(cleanup=4), job())), "plan")
        self.refused(scheduler, GraceTooShort, lambda: scheduler.spawn((job(cleanup=4),)))
        self.refused(scheduler, OutOfRange, lambda: scheduler.spawn((job(cleanup=101),)), "plan")


class CancelTest(SchedulerTest):
    def test_request(self):
        scheduler = spawned("job(4,+1,0)", "job(4,+1,0)")
        self.assertIs(scheduler.cancel(1), True)
        self.assertIs(scheduler.cancel(1), False)
        self.assertIs(scheduler.cancel(0), True)
        self.assertIs(scheduler.cancel(0), False)

    def test_it_is_applied_by_the_next_settling_step(self):
        scheduler = spawned("job(4,+1,2)")
        scheduler.run(3, ())
        scheduler.cancel(0)
        self.assertIsNone(scheduler.cancelled(0))
        self.assertEqual(scheduler.task((0,)), ("sleeping", None, False))
        self.assertIs(scheduler.settle(), True)
        self.assertEqual(scheduler.cancelled(0), (3, 0))
        self.assertEqual(scheduler.clock(), (3, 1))
        self.assertEqual(scheduler.task((0,)), ("ready", (3, 0), False))
        self.assertIs(scheduler.cancel(0), False)
        scheduler.run(0, ())
        self.assertEqual(scheduler.clock(), (3, 1))
        self.assertIs(scheduler.cancel(0), False)
        scheduler.run(5, ())
        self.assertEqual(scheduler.completion(0), ((5, 0), "cancelled", ()))
        self.assertEqual(scheduler.cancelled(0), (3, 0))

    def test_an_ended_root(self):
        scheduler = spawned("job(4,+1,2)", "job(4,-1,2)")
        scheduler.run(4, ())
        for root in (0, 1):
            before = scheduler.state()
            self.assertIs(scheduler.cancel(root), False)
            self.assertEqual(scheduler.state(), before)
            self.assertIs(scheduler.settle(), False)
            self.assertIsNone(scheduler.cancelled(root))

    def test_a_root_that_ends_before_it_is_applied(self):
        scheduler = spawned("job(0,+1,2)")
        self.assertIs(scheduler.cancel(0), True)
        scheduler.run(0, ())
        self.assertEqual(scheduler.clock(), (0, 0))
        self.assertEqual(scheduler.completion(0), ((0, 0), "completed", (1,)))
        self.assertIsNone(scheduler.cancelled(0))
        self.assertIs(scheduler.cancel(0), False)
        self.assertIs(scheduler.settle(), False)

    def test_a_request_before_the_start(self):
        scheduler = spawned("all(job(4,+1,2),job(0,+3,0))")
        scheduler.cancel(0)
        scheduler.run(9, ())
        self.assertEqual(scheduler.cancelled(0), (0, 0))
        self.assertEqual(
            lines(scheduler.trace(0)),
            ["0 0.0 2.0 cancelled -", "0.0.0 0.0 2.0 cancelled -", "0.0.1 0.0 0.0 completed 3"],
        )

    def test_no_root(self):
        scheduler = spawned("job(4,+1,2)", "job(4,-1,2)")
        for number in (-1, 2, 7, 8, 100):
            for call in (
                scheduler.cancel, scheduler.plan, scheduler.started, scheduler.cancelled, scheduler.completion,
                scheduler.trace,
            ):
                self.refused(scheduler, NoRoot, lambda: call(number))


class ResumeTest(SchedulerTest):
    def test_states(self):
        scheduler = spawned("sequence(job(0,+1,0),job(2,+2,0))")
        self.assertEqual(scheduler.resume(0), "joining")
        self.assertEqual(scheduler.ready(), [(0, 0, 0)])
        self.assertEqual(scheduler.resume(0), "ready")
        self.assertEqual(scheduler.resume(0), "finished")
        self.assertEqual(scheduler.ready(), [(0,)])
        self.assertEqual(scheduler.resume(0), "joining")
        self.assertEqual(scheduler.ready(), [(0, 1, 0)])
        self.assertEqual(scheduler.resume(0), "sleeping")
        self.assertEqual(scheduler.ready(), [])
        self.assertEqual(scheduler.task((0,)), ("joining", None, False))
        self.assertEqual(scheduler.task((0, 0, 0)), ("finished", None, False))
        self.assertEqual(scheduler.task((0, 1, 0)), ("sleeping", None, False))

    def test_any_of_several(self):
        scheduler = spawned("all(job(1,+1,0),job(2,+2,0),job(3,+3,0))", "job(0,+1,0)")
        self.assertEqual(scheduler.resume(0), "joining")
        self.assertEqual(scheduler.ready(), [(0, 0, 0), (0, 0, 1), (0, 0, 2), (1,)])
        self.assertEqual(scheduler.resume(2), "sleeping")
        self.assertEqual(scheduler.ready(), [(0, 0, 0), (0, 0, 1), (1,)])
        self.assertEqual(scheduler.resume(2), "ready")
        self.assertEqual(scheduler.resume(2), "finished")
        self.assertEqual(scheduler.ready(), [(0, 0, 0), (0, 0, 1)])

    def test_not_ready(self):
        scheduler = spawned("all(job(1,+1,0),job(2,+2,0),job(3,+3,0))")
        for many in (1, 3, 2, 1, 0):
            self.assertEqual(len(scheduler.ready()), many)
            for number in (-1, -many, many, many + 1, 100):
                if number < 0 or number >= many:
                    self.refused(scheduler, NotReady, lambda: scheduler.resume(number))
            if many > 0:
                scheduler.resume(0)


class AdvanceTest(SchedulerTest):
    def test_up_to_the_next_event(self):
        scheduler = spawned("all(job(4,+1,0),timeout(6,job(9,+2,0)))")
        scheduler.run(0, ())
        self.assertEqual(scheduler.next_event(), 4)
        self.assertEqual(scheduler.advance(3), 3)
        self.assertEqual(scheduler.clock(), (3, 0))
        self.assertEqual(scheduler.next_event(), 4)
        self.assertEqual(scheduler.advance(1000), 4)
        self.assertEqual(scheduler.ready(), [(0, 0, 0)])
        scheduler.run(0, ())
        self.assertEqual(scheduler.next_event(), 6)
        self.assertEqual(scheduler.advance(2), 6)
        self.assertEqual(scheduler.next_event(), 9)
        self.assertEqual(scheduler.ready(), [])
        self.assertIs(scheduler.settle(), True)
        self.assertEqual(scheduler.clock(), (6, 1))

    def test_the_round_starts_anew(self):
        scheduler = spawned("race(job(4,+1,0),job(9,+2,3))")
        scheduler.run(4, ())
        self.assertEqual(scheduler.clock(), (4, 1))
        self.assertEqual(scheduler.advance(0), 4)
        self.assertEqual(scheduler.clock(), (4, 1))
        self.assertEqual(scheduler.advance(1), 5)
        self.assertEqual(scheduler.clock(), (5, 0))

    def test_without_an_event(self):
        scheduler = spawned("job(4,+1,0)")
        scheduler.run(10, ())
        self.assertIsNone(scheduler.next_event())
        self.assertEqual(scheduler.advance(1000), 1010)

    def test_no_ticks(self):
        scheduler = spawned("job(4,+1,0)")
        scheduler.run(2, ())
        before = scheduler.state()
        self.assertEqual(scheduler.advance(0), 2)
        self.assertEqual(scheduler.state(), before)

    def test_refused(self):
        scheduler = spawned("job(4,+1,0)")
        for ticks in (-1, 1001, 5000):
            self.refused(scheduler, OutOfRange, lambda: scheduler.advance(ticks), "ticks")
        for ticks in (0, 1, 1000):
            self.refused(scheduler, TasksReady, lambda: scheduler.advance(ticks))
        self.refused(scheduler, TasksReady, scheduler.settle)
        scheduler.resume(0)
        scheduler.cancel(0)
        for ticks in (-1, 1001):
            self.refused(scheduler, OutOfRange, lambda: scheduler.advance(ticks), "ticks")
        for ticks in (0, 1, 1000):
            self.refused(scheduler, NotSettled, lambda: scheduler.advance(ticks))
        # A plan that was just spawned is ready: this is told before what is not settled.
        scheduler.spawn(RACE)
        self.refused(scheduler, TasksReady, lambda: scheduler.advance(1))
        self.refused(scheduler, TasksReady, scheduler.settle)

    def test_refused_before_each_settling_step(self):
        for text, time in (
            ("race(job(4,+1,0),job(9,+2,3))", 4), ("timeout(3,job(9,+2,3))", 3), ("all(job(2,-1,0),job(3,+1,0))", 2),
        ):
            scheduler = spawned(text)
            while scheduler.clock() < (time, 0) or scheduler.ready():
                scheduler.resume(0) if scheduler.ready() else scheduler.advance(1)
            self.refused(scheduler, NotSettled, lambda: scheduler.advance(0))
            self.assertIs(scheduler.settle(), True)


class NextEventTest(SchedulerTest):
    def test_a_deadline_of_a_closed_scope(self):
        scheduler = spawned("race(job(2,+1,0),timeout(5,job(9,+2,50)))")
        scheduler.run(1, ())
        self.assertEqual(scheduler.next_event(), 2)
        scheduler.run(1, ())
        self.assertEqual(scheduler.scopes(), [
            ((0, 0), "race", None, (2, 0)), ((0, 0, 1, 0), "single", 5, (2, 0)),
        ])
        self.assertEqual(scheduler.next_event(), 52)

    def test_a_deadline_of_an_ended_scope(self):
        scheduler = spawned("all(timeout(5,job(2,+1,0)),job(9,+2,0))")
        scheduler.run(1, ())
        self.assertEqual(scheduler.next_event(), 2)
        scheduler.run(1, ())
        self.assertEqual(scheduler.next_event(), 9)
        self.assertEqual(scheduler.scopes(), [((0, 0), "all", None, None)])
        scheduler.run(5, ())
        self.assertEqual(scheduler.clock(), (7, 0))

    def test_the_earliest_of_several(self):
        scheduler = spawned("timeout(8,job(9,+1,0))", "timeout(7,job(5,+1,0))", "all(job(6,+1,0),job(11,+2,0))")
        times = []
        for _ in range(4):
            scheduler.run(0, ())
            times.append(scheduler.next_event())
            scheduler.run(times[-1] - scheduler.clock()[0], ())
        self.assertEqual(times, [5, 6, 8, 11])
        self.assertIsNone(scheduler.next_event())

    def test_while_tasks_are_ready(self):
        scheduler = spawned("all(job(4,+1,0),job(6,+2,0))")
        self.assertIsNone(scheduler.next_event())
        scheduler.resume(0)
        scheduler.resume(1)
        self.assertEqual(scheduler.next_event(), 6)
        scheduler.resume(0)
        self.assertEqual(scheduler.next_event(), 4)


class RunTest(SchedulerTest):
    def test_up_to_a_time(self):
        scheduler = spawned("job(4,+1,0)")
        self.assertEqual(scheduler.run(0, ()), (0, 0))
        self.assertEqual(scheduler.run(3, []), (3, 0))
        self.assertEqual(scheduler.run(1, [7]), (4, 0))
        self.assertEqual(scheduler.completion(0), ((4, 0), "completed", (1,)))
        self.assertEqual(scheduler.run(1000, []), (1004, 0))

    def test_whatever_the_choices(self):
        for choices in ((), (0,), [1], (0, 2), [3, 4, 10 ** 9], [0] * 50, list(range(50))):
            scheduler = spawned("all(job(0,+1,0),job(2,+2,0),job(0,+3,0))")
            self.assertEqual(scheduler.run(1, choices), (1, 0))
            self.assertEqual(lines(scheduler.trace(0)), ["0.0.0 0.0 0.0 completed 1", "0.0.2 0.0 0.0 completed 3"])
            self.assertEqual(scheduler.run(1, choices), (2, 0))
            self.assertEqual(scheduler.completion(0), ((2, 0), "completed", (1, 2, 3)))

    def test_refused(self):
        scheduler = spawned("job(4,+1,0)")
        for ticks in (-1, 1001, 5000):
            self.refused(scheduler, OutOfRange, lambda: scheduler.run(ticks, ()), "ticks")
            self.refused(scheduler, OutOfRange, lambda: scheduler.run(ticks, [-1]), "ticks")
        for choices in ([0] * 51, [0] * 500, [-1], [0, 0, -1], [3, -5, 2]):
            self.refused(scheduler, OutOfRange, lambda: scheduler.run(0, choices), "choices")
            self.refused(scheduler, OutOfRange, lambda: scheduler.run(9, choices), "choices")
        self.assertEqual(scheduler.run(0, [10 ** 9] * 50), (0, 0))
        self.assertEqual(scheduler.run(1000, list(range(50))), (1000, 0))

    def test_the_choices_stay_as_they_are(self):
        scheduler = spawned("all(job(4,+1,0),job(6,+2,0))")
        choices = [3, 1, 2]
        scheduler.run(9, choices)
        self.assertEqual(choices, [3, 1, 2])


class ListTest(SchedulerTest):
    def test_lists_are_new_each_time(self):
        scheduler = spawned("all(job(4,+1,0),timeout(6,job(9,+2,0)))", "job(1,+1,0)")
        scheduler.resume(0)
        before = scheduler.state()
        for call in (scheduler.ready, scheduler.scopes):
            kept = copy.deepcopy(call())
            self.assertGreater(len(kept), 0)
            found = call()
            found.clear()
            call().append("x")
            call().reverse()
            self.assertEqual(call(), kept)
        self.assertEqual(scheduler.state(), before)

    def test_kinds(self):
        scheduler = spawned("all(job(4,+1,0),pool(2,job(9,+2,0)))")
        scheduler.run(5, ())
        self.assertIsInstance(scheduler.trace(0), tuple)
        self.assertIsInstance(scheduler.ready(), list)
        self.assertEqual(scheduler.scopes(), [((0, 0), "all", None, None), ((0, 0, 1, 0), ("pool", 2), None, None)])
        self.assertIsNone(scheduler.task((0, 0)))
        self.assertIsNone(scheduler.task((0, 0, 2)))
        self.assertIsNone(scheduler.task((1,)))
        self.assertEqual(scheduler.task((0, 0, 0)), ("finished", None, False))

    def test_paths_rise_as_tuples_do(self):
        scheduler = spawned("all(" + ",".join(["timeout(7,job(4,+1,0))"] * 6) + ")", "timeout(3,job(2,+1,0))")
        self.assertEqual(scheduler.resume(1), "joining")
        self.assertEqual(scheduler.resume(0), "joining")
        for part in (3, 1, 5, 0, 2, 4):
            self.assertEqual(scheduler.ready(), sorted(scheduler.ready()))
            scheduler.resume(scheduler.ready().index((0, 0, part)))
        inner = [(0, 0, part, 0) for part in range(6)]
        self.assertEqual([row[0] for row in scheduler.scopes()], [(0, 0), *inner, (1, 0)])
        self.assertEqual(scheduler.ready(), [(*path, 0) for path in inner] + [(1, 0, 0)])


class StateTest(SchedulerTest):
    def test_equal(self):
        for _ in range(2):
            one = spawned("all(job(4,+1,0),job(6,+2,0))", "timeout(3,job(9,+1,2))")
            two = spawned("all(job(4,+1,0),job(6,+2,0))", "timeout(3,job(9,+1,2))")
            self.assertEqual(one.state(), two.state())
            one.resume(0), one.resume(0)
            two.resume(0), two.resume(1)
            self.assertNotEqual(one.state(), two.state())
            one.resume(0), two.resume(0)
            self.assertEqual(one.state(), two.state())

    def test_different(self):
        text = "all(job(4,+1,0),timeout(3,job(9,+2,2)))"
        makers = (
            lambda: Scheduler(100), lambda: Scheduler(99), lambda: advanced(Scheduler(100), 1),
            lambda: spawned(text), lambda: spawned(text, grace=99), lambda: spawned(text, text),
            lambda: spawned("all(job(4,+1,0),timeout(3,job(9,+2,1)))"), lambda: spawned("job(4,+1,0)"),
            lambda: spawned("job(4,+1,0)", text), lambda: spawned(text, "job(4,+1,0)"),
            lambda: requested(spawned(text)), lambda: resumed(spawned(text), 0), lambda: resumed(spawned(text), 0, 0),
            lambda: resumed(spawned(text), 0, 1), lambda: resumed(spawned(text), 0, 0, 0),
            lambda: ran(spawned(text), 0), lambda: ran(spawned(text), 1), lambda: ran(spawned(text), 2),
            lambda: ran(spawned(text), 3),
            lambda: requested(ran(spawned(text), 1)), lambda: ran(requested(ran(spawned(text), 1)), 0),
            lambda: ran(requested(ran(spawned(text), 1)), 1), lambda: ran(requested(ran(spawned(text), 0)), 2),
            lambda: ran(spawned(text), 20), lambda: ran(requested(spawned(text)), 20),
            lambda: ran(requested(ran(spawned(text), 1)), 19),
        )
        states = [make().state() for make in makers]
        again = [make().state() for make in makers]
        for one, first in enumerate(states):
            for two, second in enumerate(again):
                self.assertEqual(first == second, one == two, (one, two))

    def test_it_stays_as_it_is(self):
        scheduler = spawned("all(job(4,+1,0),timeout(3,job(9,+2,2)))")
        before = scheduler.state()
        kept = copy.deepcopy(before)
        scheduler.run(3, ())
        self.assertEqual(before, kept)
        self.assertNotEqual(scheduler.state(), kept)


def advanced(scheduler, ticks):
    scheduler.advance(ticks)
    return scheduler


def requested(scheduler):
    scheduler.cancel(0)
    return scheduler


def resumed(scheduler, *numbers):
    for number in numbers:
        scheduler.resume(number)
    return scheduler


def ran(scheduler, ticks):
    scheduler.run(ticks, ())
    return scheduler


if __name__ == "__main__":
    unittest.main()
