"""Which tasks are ready, what settling steps close and mark, and how cancellations are delivered, step by step."""

import unittest

from asforetold.scheduler import Scheduler
from asforetold.sources import read_plan
from tests.trees import lines


def spawned(*texts):
    scheduler = Scheduler(100)
    for text in texts:
        scheduler.spawn(read_plan(text))
    return scheduler


class Stepwise(unittest.TestCase):
    def resume_all(self, scheduler):
        """Resume the first of the tasks that are ready, until none is."""
        while scheduler.ready():
            scheduler.resume(0)

    def come_to(self, scheduler, time):
        """Come to the instant (time, 0), with all ready tasks resumed and no settling step made at this time."""
        while scheduler.clock() < (time, 0):
            self.resume_all(scheduler)
            if not scheduler.settle():
                scheduler.advance(time - scheduler.clock()[0])
        self.resume_all(scheduler)
        self.assertEqual(scheduler.clock(), (time, 0))

    def tasks(self, scheduler, **expected):
        """The paths are told as names: t0_0_1 is that of the task (0, 0, 1)."""
        for name, row in expected.items():
            path = tuple([int(number) for number in name[1:].split("_")])
            self.assertEqual(scheduler.task(path), row, name)

    def scopes(self, scheduler, *expected):
        self.assertEqual(scheduler.scopes(), list(expected))


class ReadyTest(Stepwise):
    def test_a_pool(self):
        scheduler = spawned("pool(2,job(3,+1,0),job(1,+2,0),job(1,+3,0),job(0,+4,0))")
        self.assertEqual(scheduler.resume(0), "joining")
        self.assertEqual(scheduler.ready(), [(0, 0, 0), (0, 0, 1)])
        self.tasks(scheduler, t0_0_2=("created", None, False), t0_0_3=("created", None, False))
        self.resume_all(scheduler)
        self.assertIs(scheduler.settle(), False)
        scheduler.advance(1)
        self.assertEqual(scheduler.ready(), [(0, 0, 1)])
        self.assertEqual(scheduler.resume(0), "finished")
        self.assertEqual(scheduler.ready(), [(0, 0, 2)])
        self.assertEqual(scheduler.resume(0), "sleeping")
        self.assertEqual(scheduler.ready(), [])
        self.assertIs(scheduler.settle(), False)
        scheduler.advance(1)
        self.assertEqual(scheduler.resume(0), "finished")
        self.assertEqual(scheduler.ready(), [(0, 0, 3)])
        self.assertEqual(scheduler.resume(0), "ready")
        self.assertEqual(scheduler.resume(0), "finished")
        self.assertEqual(scheduler.ready(), [])
        self.come_to(scheduler, 3)
        self.assertEqual(scheduler.completion(0), ((3, 0), "completed", (1, 2, 3, 4)))

    def test_several_places_become_free_at_once(self):
        scheduler = spawned("pool(2,job(1,+1,0),job(1,+2,0),job(1,+3,0),job(1,+4,0),job(1,+5,0))")
        self.come_to(scheduler, 0)
        scheduler.advance(1)
        scheduler.resume(1)
        self.assertEqual(scheduler.ready(), [(0, 0, 0), (0, 0, 2)])
        scheduler.resume(0)
        self.assertEqual(scheduler.ready(), [(0, 0, 2), (0, 0, 3)])
        self.assertEqual(scheduler.resume(1), "sleeping")
        self.assertEqual(scheduler.ready(), [(0, 0, 2)])

    def test_what_fails_frees_no_place(self):
        scheduler = spawned("pool(1,job(0,-1,0),job(0,+2,0))")
        self.come_to(scheduler, 0)
        self.tasks(scheduler, t0_0_0=("finished", None, False), t0_0_1=("created", None, False))

    def test_a_sleep_of_no_ticks(self):
        scheduler = spawned("job(0,+1,0)")
        self.assertEqual(scheduler.resume(0), "ready")
        self.tasks(scheduler, t0=("ready", None, False))
        self.assertEqual(scheduler.resume(0), "finished")
        self.assertEqual(scheduler.completion(0), ((0, 0), "completed", (1,)))


class ScopeTest(Stepwise):
    def test_what_each_node_opens(self):
        for text, mode, deadline, parts in (
            ("all(job(1,+1,0),job(1,+2,0))", "all", None, 2), ("race(job(1,+1,0),job(1,+2,0))", "race", None, 2),
            ("any(job(1,+1,0))", "any", None, 1), ("pool(2,job(1,+1,0),job(1,+2,0),job(1,+3,0))", ("pool", 2), None, 3),
            ("timeout(5,job(1,+1,0))", "single", 8, 1), ("timeout(0,job(1,+1,0))", "single", 3, 1),
            ("sequence(job(1,+1,0),job(2,+2,0))", "single", None, 1),
            ("orelse(job(1,+1,0),job(1,+2,0))", "single", None, 1),
            ("retry(2,3,job(1,+1,0))", "single", None, 1),
        ):
            scheduler = Scheduler(9)
            scheduler.advance(3)
            scheduler.spawn(read_plan(text))
            self.assertEqual(scheduler.resume(0), "joining")
            self.scopes(scheduler, ((0, 0), mode, deadline, None))
            for part in range(6):
                expected = ("created", None, False) if part < parts else None
                self.assertEqual(scheduler.task((0, 0, part)), expected, (text, part))

    def test_scopes_are_counted_for_each_task(self):
        scheduler = spawned("sequence(retry(2,1,job(0,-1,0)),job(0,+2,0))", "sequence(job(0,+1,0),job(5,+2,0))")
        self.come_to(scheduler, 2)
        self.scopes(scheduler, ((1, 1), "single", None, None))
        self.assertEqual([entry[0] for entry in scheduler.trace(0)], [
            (0,), (0, 0, 0), (0, 0, 0, 0, 0), (0, 0, 0, 1, 0), (0, 0, 0, 2, 0),
        ])
        self.assertEqual([entry[0] for entry in scheduler.trace(1)], [(1, 0, 0)])

    def test_a_scope_ends_with_its_last_part(self):
        scheduler = spawned("all(job(1,+1,0),job(1,+2,0))")
        self.come_to(scheduler, 0)
        scheduler.advance(1)
        scheduler.resume(1)
        self.tasks(scheduler, t0=("joining", None, False))
        self.assertEqual(len(scheduler.scopes()), 1)
        scheduler.resume(0)
        self.tasks(scheduler, t0=("ready", None, False))
        self.scopes(scheduler)
        self.assertEqual(scheduler.clock(), (1, 0))


class ClosingTest(Stepwise):
    def settles(self, text, time, *scopes):
        """At a time the settling step closes; the scopes that have not ended are then these, at the next round."""
        scheduler = spawned(text)
        self.come_to(scheduler, time)
        self.assertIs(scheduler.settle(), True, text)
        self.assertEqual(scheduler.clock(), (time, 1))
        self.scopes(scheduler, *scopes)
        return scheduler

    def stays(self, text, time):
        scheduler = spawned(text)
        self.come_to(scheduler, time)
        before = scheduler.state()
        self.assertIs(scheduler.settle(), False, text)
        self.assertEqual(scheduler.state(), before)
        self.assertEqual(scheduler.clock(), (time, 0))

    def test_by_deadlines(self):
        scheduler = self.settles("timeout(3,job(9,+1,2))", 3, ((0, 0), "single", 3, (3, 0)))
        self.tasks(scheduler, t0=("joining", None, False), t0_0_0=("ready", (3, 0), False))
        self.settles("timeout(0,job(9,+1,2))", 0, ((0, 0), "single", 0, (0, 0)))
        self.stays("timeout(3,job(9,+1,2))", 2)
        self.stays("timeout(3,job(3,+1,2))", 3)

    def test_by_a_part_that_failed(self):
        for mode, name in (("all", "all"), ("pool(5", ("pool", 5))):
            text = f"{mode}({{}})" if mode == "all" else f"{mode},{{}})"
            scheduler = self.settles(text.format("job(3,-1,0),job(9,+2,0)"), 3, ((0, 0), name, None, (3, 0)))
            self.tasks(scheduler, t0_0_0=("finished", None, False), t0_0_1=("ready", (3, 0), False))
            self.stays(text.format("job(3,+1,0),job(9,+2,0)"), 3)

    def test_a_race(self):
        for word in "+-":
            scheduler = self.settles(f"race(job(9,+2,0),job(3,{word}1,0))", 3, ((0, 0), "race", None, (3, 0)))
            self.tasks(scheduler, t0_0_0=("ready", (3, 0), False), t0_0_1=("finished", None, False))
        self.stays("race(job(9,+2,0),job(3,+1,0))", 2)

    def test_an_any(self):
        self.settles("any(job(9,+2,0),job(3,+1,0))", 3, ((0, 0), "any", None, (3, 0)))
        self.stays("any(job(9,+2,0),job(3,-1,0))", 3)

    def test_not_by_a_part_of_a_single(self):
        self.stays("sequence(job(3,-1,0),job(3,+2,0))", 3)
        self.stays("orelse(job(3,-1,0),job(3,+2,0))", 3)
        self.stays("timeout(9,all(job(3,+1,0),job(4,+2,0)))", 3)

    def test_scopes_that_have_ended_are_not_closed(self):
        self.stays("all(job(3,-1,0))", 3)
        self.stays("race(job(3,-1,0),job(3,+2,0))", 3)
        self.stays("any(job(3,+1,0))", 3)
        self.stays("all(timeout(3,job(2,+1,0)),job(9,+1,0))", 3)

    def test_scopes_below(self):
        scheduler = self.settles(
            "race(job(3,+1,0),all(job(9,+2,4),timeout(7,job(9,+3,4))),job(9,+4,4))", 3,
            ((0, 0), "race", None, (3, 0)), ((0, 0, 1, 0), "all", None, (3, 0)),
            ((0, 0, 1, 0, 1, 0), "single", 7, (3, 0)),
        )
        self.tasks(
            scheduler, t0=("joining", None, False), t0_0_0=("finished", None, False), t0_0_1=("joining", (3, 0), False),
            t0_0_1_0_0=("ready", (3, 0), False), t0_0_1_0_1=("joining", (3, 0), False),
            t0_0_1_0_1_0_0=("ready", (3, 0), False), t0_0_2=("ready", (3, 0), False),
        )

    def test_nothing_beside_or_above_is_closed(self):
        scheduler = self.settles(
            "all(race(job(3,+1,0),job(9,+2,4)),any(job(9,+3,0),job(8,+4,0)))", 3,
            ((0, 0), "all", None, None), ((0, 0, 0, 0), "race", None, (3, 0)), ((0, 0, 1, 0), "any", None, None),
        )
        self.tasks(
            scheduler, t0=("joining", None, False), t0_0_0=("joining", None, False), t0_0_1=("joining", None, False),
            t0_0_0_0_1=("ready", (3, 0), False), t0_0_1_0_0=("sleeping", None, False),
        )
        other = spawned("race(job(3,+1,0),job(9,+2,4))", "job(9,+2,0)")
        self.come_to(other, 3)
        other.settle()
        self.tasks(other, t1=("sleeping", None, False))

    def test_a_scope_is_closed_once(self):
        scheduler = self.settles("timeout(5,race(job(3,+1,0),job(9,+2,7)))", 3, ((0, 0), "single", 5, None), (
            (0, 0, 0, 0), "race", None, (3, 0),
        ))
        self.come_to(scheduler, 5)
        self.assertIs(scheduler.settle(), True)
        self.scopes(scheduler, ((0, 0), "single", 5, (5, 0)), ((0, 0, 0, 0), "race", None, (3, 0)))
        self.tasks(scheduler, t0_0_0=("joining", (5, 0), False), t0_0_0_0_1=("sleeping", (3, 0), True))
        self.assertIs(scheduler.settle(), False)

    def test_a_deadline_that_is_reached_as_another_reason_applies(self):
        scheduler = spawned("race(job(5,+1,0),timeout(5,job(9,+2,1)))")
        self.come_to(scheduler, 5)
        scheduler.settle()
        self.scopes(scheduler, ((0, 0), "race", None, (5, 0)), ((0, 0, 1, 0), "single", 5, (5, 0)))
        scheduler.run(9, ())
        self.assertEqual(scheduler.completion(0), ((6, 0), "failed", ("deadline exceeded",)))
        scheduler = spawned("timeout(5,job(9,+2,1))")
        self.come_to(scheduler, 5)
        scheduler.cancel(0)
        scheduler.settle()
        scheduler.run(9, ())
        self.assertEqual(scheduler.cancelled(0), (5, 0))
        self.assertEqual(scheduler.completion(0), ((6, 0), "failed", ("deadline exceeded",)))

    def test_the_state_before_the_step_counts(self):
        # The timeout ends only when its part is resumed, so that the race is decided in a later step.
        scheduler = self.settles(
            "race(timeout(3,job(9,+1,0)),job(9,+2,0))", 3,
            ((0, 0), "race", None, None), ((0, 0, 0, 0), "single", 3, (3, 0)),
        )
        self.tasks(scheduler, t0_0_1=("sleeping", None, False))
        self.resume_all(scheduler)
        self.assertEqual(scheduler.clock(), (3, 1))
        self.assertIs(scheduler.settle(), True)
        self.scopes(scheduler, ((0, 0), "race", None, (3, 1)))
        self.tasks(scheduler, t0_0_1=("ready", (3, 1), False))
        self.assertEqual(scheduler.clock(), (3, 2))


class RootTest(Stepwise):
    def test_all_of_a_root_is_marked(self):
        scheduler = spawned("all(job(9,+1,0),timeout(8,job(9,+2,3)),job(1,+5,0))", "job(9,+3,0)")
        self.come_to(scheduler, 2)
        scheduler.cancel(0)
        self.assertIs(scheduler.settle(), True)
        self.scopes(scheduler, ((0, 0), "all", None, (2, 0)), ((0, 0, 1, 0), "single", 8, (2, 0)))
        self.tasks(
            scheduler, t0=("joining", (2, 0), False), t0_0_0=("ready", (2, 0), False),
            t0_0_1=("joining", (2, 0), False),
            t0_0_1_0_0=("ready", (2, 0), False), t0_0_2=("finished", None, False), t1=("sleeping", None, False),
        )
        self.assertIs(scheduler.cancel(0), False)
        self.assertEqual(scheduler.cancelled(0), (2, 0))
        self.assertIsNone(scheduler.cancelled(1))

    def test_several_roots_in_one_step(self):
        scheduler = spawned("job(9,+1,0)", "job(9,+2,0)", "race(job(2,+3,0),job(9,+1,4))", "job(9,+2,0)")
        self.come_to(scheduler, 2)
        scheduler.cancel(3)
        scheduler.cancel(0)
        self.assertIs(scheduler.settle(), True)
        self.assertEqual([scheduler.cancelled(root) for root in range(4)], [(2, 0), None, None, (2, 0)])
        self.assertEqual(scheduler.ready(), [(0,), (2, 0, 1), (3,)])
        self.assertEqual(scheduler.clock(), (2, 1))

    def test_a_root_that_joins_is_marked_alone_where_all_below_has_a_mark(self):
        scheduler = spawned("race(job(2,+3,0),job(9,+1,4))")
        self.come_to(scheduler, 3)
        scheduler.cancel(0)
        self.assertIs(scheduler.settle(), True)
        self.assertEqual(scheduler.ready(), [])
        self.tasks(scheduler, t0=("joining", (3, 0), False), t0_0_1=("sleeping", (2, 0), True))
        self.assertEqual(scheduler.clock(), (3, 1))
        self.assertIs(scheduler.settle(), False)
        scheduler.run(9, ())
        self.assertEqual(scheduler.completion(0), ((6, 0), "cancelled", ()))


class CreatedTest(Stepwise):
    def test_created_parts_are_cancelled_at_the_next_instant(self):
        scheduler = spawned("pool(1,job(3,-1,0),job(9,+2,0),all(job(1,+1,0)))")
        self.come_to(scheduler, 3)
        self.assertIs(scheduler.settle(), True)
        self.tasks(
            scheduler, t0_0_1=("finished", (3, 0), False), t0_0_2=("finished", (3, 0), False),
            t0=("ready", None, False),
        )
        self.scopes(scheduler)
        self.assertEqual(lines(scheduler.trace(0)), [
            "0.0.0 0.0 3.0 failed 1", "0.0.1 - 3.1 cancelled -", "0.0.2 - 3.1 cancelled -",
        ])
        self.resume_all(scheduler)
        self.assertEqual(scheduler.completion(0), ((3, 1), "failed", (1,)))

    def test_while_others_clean_up(self):
        scheduler = spawned("pool(2,job(3,-1,0),job(9,+2,2),job(9,+3,0))")
        self.come_to(scheduler, 3)
        scheduler.settle()
        self.tasks(
            scheduler, t0_0_2=("finished", (3, 0), False), t0_0_1=("ready", (3, 0), False), t0=("joining", None, False),
        )
        scheduler.run(2, ())
        self.assertEqual(scheduler.completion(0), ((5, 0), "failed", (1,)))

    def test_below_a_cancelled_root(self):
        scheduler = spawned("pool(1,job(9,+1,0),job(9,+2,0))")
        self.come_to(scheduler, 2)
        scheduler.cancel(0)
        scheduler.settle()
        self.tasks(scheduler, t0_0_0=("ready", (2, 0), False), t0_0_1=("finished", (2, 0), False))
        self.assertEqual(lines(scheduler.trace(0)), ["0.0.1 - 2.1 cancelled -"])


class DeliveryTest(Stepwise):
    def test_a_sleeping_job(self):
        scheduler = spawned("job(9,+1,4,!7)")
        self.come_to(scheduler, 2)
        scheduler.cancel(0)
        scheduler.settle()
        self.tasks(scheduler, t0=("ready", (2, 0), False))
        self.assertEqual(scheduler.resume(0), "sleeping")
        self.tasks(scheduler, t0=("sleeping", (2, 0), True))
        self.assertEqual(scheduler.next_event(), 6)
        scheduler.advance(4)
        self.assertEqual(scheduler.resume(0), "finished")
        self.tasks(scheduler, t0=("finished", (2, 0), True))
        self.assertEqual(scheduler.completion(0), ((6, 0), "failed", (7,)))

    def test_a_cleanup_of_no_ticks(self):
        scheduler = spawned("job(9,+1,0)")
        self.come_to(scheduler, 2)
        scheduler.cancel(0)
        scheduler.settle()
        self.assertEqual(scheduler.resume(0), "ready")
        self.tasks(scheduler, t0=("ready", (2, 0), True))
        self.assertEqual(scheduler.resume(0), "finished")
        self.assertEqual(scheduler.completion(0), ((2, 1), "cancelled", ()))

    def test_a_scope_does_not_take_place(self):
        scheduler = spawned("orelse(job(9,+1,4,!7),job(9,+2,0))")
        self.come_to(scheduler, 2)
        scheduler.cancel(0)
        self.come_to(scheduler, 5)
        scheduler.advance(1)
        self.assertEqual(scheduler.ready(), [(0, 0, 0)])
        self.assertEqual(scheduler.resume(0), "finished")
        self.tasks(scheduler, t0=("ready", (2, 0), False))
        self.assertEqual(scheduler.resume(0), "ready")
        self.tasks(scheduler, t0=("ready", (2, 0), False), t0_1_0=None)
        self.scopes(scheduler)
        self.assertEqual(scheduler.resume(0), "finished")
        self.tasks(scheduler, t0=("finished", (2, 0), True))
        self.assertEqual(scheduler.completion(0), ((6, 0), "cancelled", ()))

    def test_a_sleep_does_not_take_place(self):
        for delay in (0, 3):
            scheduler = spawned(f"retry(2,{delay},job(9,+1,4,!7))")
            self.come_to(scheduler, 2)
            scheduler.cancel(0)
            self.come_to(scheduler, 5)
            scheduler.advance(1)
            scheduler.resume(0)
            self.assertEqual(scheduler.resume(0), "ready")
            self.tasks(scheduler, t0=("ready", (2, 0), False))
            self.assertIsNone(scheduler.next_event())
            self.assertEqual(scheduler.resume(0), "finished")
            self.assertEqual(scheduler.completion(0), ((6, 0), "cancelled", ()))
            self.assertEqual(lines(scheduler.trace(0)), ["0 0.0 6.0 cancelled -", "0.0.0 0.0 6.0 failed 7"])

    def test_a_delay(self):
        scheduler = spawned("retry(2,9,job(1,-1,4,!7))")
        self.come_to(scheduler, 3)
        scheduler.cancel(0)
        scheduler.settle()
        self.tasks(scheduler, t0=("ready", (3, 0), False))
        self.assertEqual(scheduler.resume(0), "finished")
        self.tasks(scheduler, t0=("finished", (3, 0), True))
        self.assertEqual(scheduler.completion(0), ((3, 1), "cancelled", ()))

    def test_a_throw_is_not_replaced(self):
        scheduler = spawned("all(job(9,+1,4,!7))")
        self.come_to(scheduler, 2)
        scheduler.cancel(0)
        self.come_to(scheduler, 5)
        scheduler.advance(1)
        scheduler.resume(0)
        self.assertEqual(scheduler.resume(0), "finished")
        self.tasks(scheduler, t0=("finished", (2, 0), False))
        self.assertEqual(scheduler.completion(0), ((6, 0), "failed", (7,)))

    def test_a_task_with_a_mark_never_completes(self):
        scheduler = spawned("race(job(2,+1,0),job(9,+2,5))")
        self.come_to(scheduler, 4)
        scheduler.cancel(0)
        scheduler.run(20, ())
        self.assertEqual(lines(scheduler.trace(0)), [
            "0 0.0 7.0 cancelled -", "0.0.0 0.0 2.0 completed 1", "0.0.1 0.0 7.0 cancelled -",
        ])
        self.tasks(scheduler, t0=("finished", (4, 0), True))

    def test_a_sequence(self):
        scheduler = spawned("sequence(race(job(2,+1,0),job(9,+2,5)),job(3,+3,0))")
        self.come_to(scheduler, 4)
        scheduler.cancel(0)
        scheduler.run(20, ())
        self.assertEqual(scheduler.completion(0), ((7, 0), "cancelled", ()))
        self.tasks(scheduler, t0_1_0=None)


if __name__ == "__main__":
    unittest.main()
