"""What is foretold, worked out by hand; what holds of every plan is tested in test_foresight.py."""

import unittest

from asforetold.errors import OutOfRange
from asforetold.foretelling import end_of, job_end, predict
from asforetold.sources import read_plan
from tests.trees import lines


class Foretold(unittest.TestCase):
    def ends(self, text, *rows, start=(0, 0)):
        """Each row holds a cancellation, and the end as the line of a trace tells it."""
        plan = read_plan(text)
        for cancel, line in rows:
            end = end_of(plan, start, cancel)
            self.assertEqual(lines([((0,), start) + end]), [f"0 {start[0]}.{start[1]} {line}"], (text, cancel))
            self.assertEqual(predict(plan, (0,), start, cancel)[:3], end)

    def runs(self, text, cancel, *entries, start=(0, 0), path=(0,)):
        """The entries are those of the trace, in order; the first one is that of the whole."""
        prediction = predict(read_plan(text), path, start, cancel)
        self.assertEqual(lines(prediction[3]), list(entries), (text, cancel))
        self.assertEqual(prediction[:3], prediction[3][0][2:])
        self.assertEqual(end_of(read_plan(text), start, cancel), prediction[:3])


class ExampleTest(Foretold):
    def test_examples(self):
        self.assertEqual(end_of(read_plan("race(job(4,+1,0),job(9,+2,3))"), (0, 0), None), ((7, 0), "completed", (1,)))
        self.assertEqual(end_of(read_plan("all(job(2,-5,0),job(9,+1,0,!6))"), (0, 0), None), ((2, 1), "failed", (5, 6)))
        self.assertEqual(
            end_of(read_plan("timeout(5,job(9,+1,2))"), (0, 0), None), ((7, 0), "failed", ("deadline exceeded",)),
        )
        self.assertEqual(end_of(read_plan("retry(2,3,job(1,-7,0))"), (0, 0), None), ((9, 0), "failed", (7,)))

    def test_example_of_a_pool(self):
        self.runs(
            "pool(2,job(3,+1,0),job(1,+2,0),job(1,+3,0))", None,
            "0 0.0 3.0 completed 1,2,3", "0.0.0 0.0 3.0 completed 1", "0.0.1 0.0 1.0 completed 2",
            "0.0.2 1.0 2.0 completed 3",
        )

    def test_example_of_a_deadline_at_the_very_decision(self):
        self.runs(
            "timeout(5,race(job(5,+1,0),job(9,+2,0)))", None,
            "0 0.0 5.1 failed deadline", "0.0.0 0.0 5.1 cancelled -", "0.0.0.0.0 0.0 5.0 completed 1",
            "0.0.0.0.1 0.0 5.1 cancelled -",
        )

    def test_example_of_an_orelse(self):
        self.runs(
            "orelse(job(2,-5,0),job(3,+8,0))", (2, 0),
            "0 0.0 2.1 cancelled -", "0.0.0 0.0 2.0 failed 5", "0.1.0 2.0 2.1 cancelled -",
        )


class JobTest(Foretold):
    def test_without_cancellation(self):
        self.ends("job(5,+1,0)", (None, "5.0 completed 1"))
        self.ends("job(5,-1,9,!7)", (None, "5.0 failed 1"))
        self.ends("job(5,+1,0)", (None, "9.0 completed 1"), start=(4, 2))
        self.ends("job(0,+1,0)", (None, "4.2 completed 1"), start=(4, 2))
        self.ends("job(0,-1,3)", (None, "0.0 failed 1"))

    def test_cancelled_around_the_end(self):
        self.ends(
            "job(5,+1,0)", ((0, 0), "0.1 cancelled -"), ((0, 4), "0.5 cancelled -"), ((4, 0), "4.1 cancelled -"),
            ((4, 9), "4.10 cancelled -"), ((5, 0), "5.0 completed 1"), ((5, 1), "5.0 completed 1"),
            ((6, 0), "5.0 completed 1"),
        )
        self.ends(
            "job(5,-1,0)", ((4, 9), "4.10 cancelled -"), ((5, 0), "5.0 failed 1"), ((5, 1), "5.0 failed 1"),
        )

    def test_cleanup(self):
        self.ends(
            "job(5,+1,3)", ((0, 0), "3.0 cancelled -"), ((2, 6), "5.0 cancelled -"), ((4, 9), "7.0 cancelled -"),
            ((5, 0), "5.0 completed 1"),
        )
        self.ends("job(5,+1,3,!7)", ((2, 6), "5.0 failed 7"), ((5, 0), "5.0 completed 1"), (None, "5.0 completed 1"))
        self.ends("job(5,-1,0,!0)", ((2, 6), "2.7 failed 0"), ((5, 0), "5.0 failed 1"))

    def test_started_in_a_later_round(self):
        self.ends(
            "job(5,+1,0)", ((4, 2), "4.3 cancelled -"), ((8, 3), "8.4 cancelled -"), ((9, 0), "9.0 completed 1"),
            start=(4, 2),
        )
        self.ends("job(0,+1,3)", ((4, 2), "4.2 completed 1"), ((4, 3), "4.2 completed 1"), start=(4, 2))

    def test_trace(self):
        self.runs("job(5,+1,0)", None, "3.1.2 4.2 9.0 completed 1", start=(4, 2), path=(3, 1, 2))
        self.runs("job(5,+1,2,!8)", (5, 0), "7 4.2 7.0 failed 8", start=(4, 2), path=(7,))

    def test_job_end(self):
        self.assertEqual(job_end(("job", 5, "gives", 1, 0, None), (0, 0), None), ((5, 0), "completed", (1,)))
        self.assertEqual(job_end(("job", 5, "throws", 1, 0, None), (4, 2), None), ((9, 0), "failed", (1,)))
        self.assertEqual(job_end(("job", 5, "gives", 1, 0, None), (0, 0), (3, 2)), ((3, 3), "cancelled", ()))
        self.assertEqual(job_end(("job", 5, "gives", 1, 4, 9), (0, 0), (3, 2)), ((7, 0), "failed", (9,)))
        self.assertEqual(job_end(("job", 0, "gives", 1, 4, 9), (3, 2), (3, 2)), ((3, 2), "completed", (1,)))

    def test_job_end_agrees(self):
        for duration in (0, 1, 5):
            for word in ("gives", "throws"):
                for cleanup in (0, 3):
                    for fault in (None, 0, 7):
                        node = ("job", duration, word, 1, cleanup, fault)
                        for cancel in (None, (4, 2), (4, 3), (5, 0), (8, 9), (9, 0), (9, 1), (99, 0)):
                            end = job_end(node, (4, 2), cancel)
                            self.assertEqual(end_of((node,), (4, 2), cancel), end)
                            trace = (((2, 0, 1), (4, 2)) + end,)
                            self.assertEqual(predict((node,), (2, 0, 1), (4, 2), cancel), end + (trace,))


class CancelTest(unittest.TestCase):
    def test_before_the_start(self):
        node = ("job", 0, "gives", 1, 0, None)
        plan = read_plan("all(job(1,+1,0),orelse(job(0,-1,0),job(1,+1,0)))")
        for start, cancel in (((4, 2), (4, 1)), ((4, 2), (3, 9)), ((4, 2), (0, 0)), ((1, 0), (0, 9)), ((0, 1), (0, 0))):
            for call in (
                lambda: predict(plan, (0,), start, cancel), lambda: end_of(plan, start, cancel),
                lambda: job_end(node, start, cancel), lambda: predict((node,), (0,), start, cancel),
                lambda: end_of((node,), start, cancel),
            ):
                with self.assertRaises(OutOfRange) as caught:
                    call()
                self.assertEqual(caught.exception.name, "cancel")

    def test_at_the_start(self):
        plan = read_plan("all(job(1,+1,0),orelse(job(0,-1,0),job(1,+1,0)))")
        self.assertEqual(end_of(plan, (4, 2), (4, 2)), ((4, 3), "cancelled", ()))


class AllTest(Foretold):
    def test_all_complete(self):
        self.runs(
            "all(job(3,+1,0),job(5,+2,0))", None,
            "0 0.0 5.0 completed 1,2", "0.0.0 0.0 3.0 completed 1", "0.0.1 0.0 5.0 completed 2",
        )
        self.ends("all(job(5,+9,0),job(3,+1,0),all(job(1,+4,0),job(2,+3,0)))", (None, "5.0 completed 9,1,4,3"))
        self.ends("all(job(0,+1,0),job(0,+2,0))", (None, "4.2 completed 1,2"), start=(4, 2))

    def test_cancelled(self):
        self.ends(
            "all(job(3,+1,0),job(5,+2,0))", ((0, 0), "0.1 cancelled -"), ((3, 0), "3.1 cancelled -"),
            ((4, 9), "4.10 cancelled -"), ((5, 0), "5.0 completed 1,2"),
        )
        self.runs(
            "all(job(3,+1,0),job(5,+2,4),job(9,+3,0,!8))", (3, 0),
            "0 0.0 7.0 failed 8", "0.0.0 0.0 3.0 completed 1", "0.0.1 0.0 7.0 cancelled -", "0.0.2 0.0 3.1 failed 8",
        )

    def test_a_part_fails(self):
        self.runs(
            "all(job(9,+1,4,!6),job(2,-5,0),job(2,+3,0),job(3,+4,0))", None,
            "0 0.0 6.0 failed 6,5", "0.0.0 0.0 6.0 failed 6", "0.0.1 0.0 2.0 failed 5", "0.0.2 0.0 2.0 completed 3",
            "0.0.3 0.0 2.1 cancelled -",
        )
        self.ends("all(job(2,-5,0),job(2,-6,0))", (None, "2.0 failed 5,6"))
        self.ends("all(job(3,-5,0),job(2,-6,0))", (None, "2.1 failed 6"))

    def test_cancelled_while_parts_clean_up(self):
        self.ends(
            "all(job(2,-5,0),job(9,+1,10))", (None, "12.0 failed 5"), ((4, 0), "12.0 failed 5"),
            ((2, 0), "12.0 failed 5"), ((1, 9), "11.0 cancelled -"), ((12, 0), "12.0 failed 5"),
        )

    def test_the_part_that_fails_would_fail_after_the_cancellation(self):
        self.ends("all(job(9,+1,2,!5),job(9,+1,4,!6))", ((1, 1), "5.0 failed 5,6"))


class RaceTest(Foretold):
    TEXT = "race(job(4,+1,0),job(9,+2,3))"

    def test_the_first_one_completes(self):
        self.runs(
            self.TEXT, None, "0 0.0 7.0 completed 1", "0.0.0 0.0 4.0 completed 1", "0.0.1 0.0 7.0 cancelled -",
        )
        self.ends("race(job(5,+1,0),job(4,+2,0))", (None, "4.1 completed 2"))
        self.ends("race(job(5,+1,0))", (None, "5.0 completed 1"))

    def test_cancelled(self):
        self.runs(
            self.TEXT, (4, 0), "0 0.0 7.0 cancelled -", "0.0.0 0.0 4.0 completed 1", "0.0.1 0.0 7.0 cancelled -",
        )
        self.ends(
            self.TEXT, ((3, 5), "6.0 cancelled -"), ((6, 9), "7.0 cancelled -"), ((7, 0), "7.0 completed 1"),
            ((7, 1), "7.0 completed 1"),
        )

    def test_the_first_one_fails(self):
        self.ends("race(job(2,-5,0),job(3,+1,0))", (None, "2.1 failed 5"), ((2, 0), "2.1 failed 5"))
        self.ends("race(job(4,+1,0),job(9,+2,3,!8))", (None, "7.0 failed 8"), ((5, 0), "7.0 failed 8"))
        self.ends("race(job(9,+2,3,!8),job(4,-1,0),job(9,+2,1,!6))", (None, "7.0 failed 8,1,6"))

    def test_several_at_the_same_instant(self):
        self.ends("race(job(3,+1,0),job(3,+2,0))", (None, "3.0 completed 1"), ((3, 0), "3.0 completed 1"))
        self.ends("race(job(3,+1,0),job(3,-2,0))", (None, "3.0 failed 2"))
        self.ends("race(job(4,+1,0),job(3,+2,0),job(3,+3,0))", (None, "3.1 completed 2"))


class AnyTest(Foretold):
    TEXT = "any(job(2,-5,0),job(4,+1,0),job(9,+2,0))"

    def test_one_completes(self):
        self.runs(
            self.TEXT, None, "0 0.0 4.1 completed 1", "0.0.0 0.0 2.0 failed 5", "0.0.1 0.0 4.0 completed 1",
            "0.0.2 0.0 4.1 cancelled -",
        )
        self.ends("any(job(5,+1,0),job(4,+2,0),job(4,+3,0))", (None, "4.1 completed 2"))

    def test_none_completes(self):
        self.ends("any(job(4,-5,0),job(2,-6,0))", (None, "4.0 failed 5,6"), ((3, 0), "3.1 failed 6"))
        self.ends("any(job(2,-5,0),job(9,+2,3))", ((4, 0), "7.0 failed 5"), ((1, 0), "4.0 cancelled -"))

    def test_errors_of_those_that_clean_up_count(self):
        self.ends("any(job(4,+1,0),job(9,+2,3,!8),job(2,-5,0))", (None, "7.0 failed 8"))
        self.ends("any(job(4,+1,0),job(9,+2,3,!8),job(2,-5,0))", ((3, 0), "6.0 failed 8,5"))

    def test_errors_at_the_very_instant_do_not_count(self):
        self.ends("any(job(4,+1,0),job(4,-5,0),job(9,+2,0))", (None, "4.1 completed 1"), ((4, 0), "4.1 cancelled -"))
        self.ends("any(job(4,-5,0),job(4,+1,0))", (None, "4.0 completed 1"))

    def test_cancelled(self):
        self.ends(
            self.TEXT, ((3, 0), "3.1 failed 5"), ((1, 0), "1.1 cancelled -"), ((4, 0), "4.1 cancelled -"),
            ((4, 1), "4.1 completed 1"),
        )


class PoolTest(Foretold):
    ONE = "pool(1,job(2,+1,0),job(3,+2,0),job(1,+3,0))"

    def test_one_at_a_time(self):
        self.runs(
            self.ONE, None, "0 0.0 6.0 completed 1,2,3", "0.0.0 0.0 2.0 completed 1", "0.0.1 2.0 5.0 completed 2",
            "0.0.2 5.0 6.0 completed 3",
        )

    def test_cancelled(self):
        self.runs(
            self.ONE, (2, 0), "0 0.0 2.1 cancelled -", "0.0.0 0.0 2.0 completed 1", "0.0.1 2.0 2.1 cancelled -",
            "0.0.2 - 2.1 cancelled -",
        )
        self.runs(
            self.ONE, (1, 3), "0 0.0 1.4 cancelled -", "0.0.0 0.0 1.4 cancelled -", "0.0.1 - 1.4 cancelled -",
            "0.0.2 - 1.4 cancelled -",
        )
        self.ends(self.ONE, ((6, 0), "6.0 completed 1,2,3"), ((5, 9), "5.10 cancelled -"))

    def test_parts_of_no_duration_start_at_the_cancellation(self):
        self.runs(
            "pool(1,job(2,+1,0),job(0,+2,0),job(1,+3,0))", (2, 0), "0 0.0 2.1 cancelled -",
            "0.0.0 0.0 2.0 completed 1", "0.0.1 2.0 2.0 completed 2", "0.0.2 2.0 2.1 cancelled -",
        )

    def test_a_part_fails(self):
        self.runs(
            "pool(1,job(2,-5,0),job(3,+2,0))", None,
            "0 0.0 2.1 failed 5", "0.0.0 0.0 2.0 failed 5", "0.0.1 - 2.1 cancelled -",
        )
        self.runs(
            "pool(2,job(5,-5,0),job(1,+1,0),job(9,+2,3),job(1,+3,0))", None,
            "0 0.0 8.0 failed 5", "0.0.0 0.0 5.0 failed 5", "0.0.1 0.0 1.0 completed 1", "0.0.2 1.0 8.0 cancelled -",
            "0.0.3 - 5.1 cancelled -",
        )

    def test_a_part_fails_behind_the_cancellation(self):
        self.runs(
            "pool(1,job(4,+1,2,!9),job(1,+2,0))", (1, 3),
            "0 0.0 3.0 failed 9", "0.0.0 0.0 3.0 failed 9", "0.0.1 - 1.4 cancelled -",
        )

    def test_places_become_free_in_the_order_of_ends(self):
        self.runs(
            "pool(2,job(4,+1,0),job(1,+2,0),job(1,+3,0),job(1,+4,0))", None,
            "0 0.0 4.0 completed 1,2,3,4", "0.0.0 0.0 4.0 completed 1", "0.0.1 0.0 1.0 completed 2",
            "0.0.2 1.0 2.0 completed 3", "0.0.3 2.0 3.0 completed 4",
        )
        self.runs(
            "pool(2,job(2,+1,0),job(2,+2,0),job(1,+3,0),job(1,+4,0))", None,
            "0 0.0 3.0 completed 1,2,3,4", "0.0.0 0.0 2.0 completed 1", "0.0.1 0.0 2.0 completed 2",
            "0.0.2 2.0 3.0 completed 3", "0.0.3 2.0 3.0 completed 4",
        )

    def test_a_part_that_is_never_started_has_no_parts(self):
        self.runs(
            "pool(1,job(2,-5,0),all(job(1,+1,0),job(1,+2,0)))", None,
            "0 0.0 2.1 failed 5", "0.0.0 0.0 2.0 failed 5", "0.0.1 - 2.1 cancelled -",
        )

    def test_as_large_as_its_parts(self):
        for size in (2, 3, 6):
            self.ends(
                f"pool({size},job(3,+1,0),job(5,+2,0))", (None, "5.0 completed 1,2"), ((4, 0), "4.1 cancelled -"),
                ((0, 0), "0.1 cancelled -"),
            )

    def test_started_in_a_later_round(self):
        self.runs(
            "pool(1,job(0,+1,0),job(0,+2,0),job(1,+3,0))", (4, 2), "0 4.2 4.3 cancelled -",
            "0.0.0 4.2 4.2 completed 1", "0.0.1 4.2 4.2 completed 2", "0.0.2 4.2 4.3 cancelled -", start=(4, 2),
        )


class TimeoutTest(Foretold):
    def test_in_time(self):
        self.runs("timeout(5,job(2,+1,0))", None, "0 0.0 2.0 completed 1", "0.0.0 0.0 2.0 completed 1")
        self.ends("timeout(5,job(2,-7,0))", (None, "2.0 failed 7"))

    def test_the_deadline_is_exceeded(self):
        self.runs("timeout(5,job(9,+1,2))", None, "0 0.0 7.0 failed deadline", "0.0.0 0.0 7.0 cancelled -")
        self.runs("timeout(5,job(9,+1,2,!8))", None, "0 0.0 7.0 failed deadline,8", "0.0.0 0.0 7.0 failed 8")
        self.ends("timeout(5,job(6,-3,0))", (None, "5.1 failed deadline"))
        self.ends("timeout(5,job(6,-3,0))", (None, "9.1 failed deadline"), start=(4, 2))

    def test_a_deadline_at_the_very_end(self):
        self.ends("timeout(5,job(5,+1,0))", (None, "5.0 completed 1"), ((5, 0), "5.0 completed 1"))
        self.ends("timeout(5,job(5,-1,0))", (None, "5.0 failed 1"))

    def test_a_deadline_of_no_ticks(self):
        self.ends("timeout(0,job(0,+1,0))", (None, "4.2 completed 1"), ((4, 2), "4.2 completed 1"), start=(4, 2))
        self.ends("timeout(0,job(0,-1,0))", (None, "4.2 failed 1"), start=(4, 2))
        for cancel in (None, (4, 2), (4, 3)):
            self.ends("timeout(0,job(1,+1,0))", (cancel, "4.3 failed deadline"), start=(4, 2))
        self.ends("timeout(0,job(1,+1,2,!3))", (None, "6.0 failed deadline,3"), start=(4, 2))

    def test_cancelled_before_the_deadline(self):
        self.ends(
            "timeout(5,job(9,+1,2))", ((3, 0), "5.0 cancelled -"), ((4, 9), "6.0 cancelled -"),
            ((0, 0), "2.0 cancelled -"),
        )
        self.ends("timeout(5,job(9,+1,2,!8))", ((3, 0), "5.0 failed 8"), ((4, 9), "6.0 failed 8"))
        self.ends("timeout(5,job(4,+1,0))", ((3, 9), "3.10 cancelled -"), ((4, 0), "4.0 completed 1"))

    def test_cancelled_at_the_deadline_or_behind_it(self):
        for cancel in ((5, 0), (5, 1), (6, 0), (7, 0), (7, 1), None):
            self.ends("timeout(5,job(9,+1,2))", (cancel, "7.0 failed deadline"))
            self.ends("timeout(5,job(9,+1,2,!8))", (cancel, "7.0 failed deadline,8"))

    def test_within_what_decides_first(self):
        self.ends("race(job(3,+1,0),timeout(5,job(9,+2,4)))", (None, "7.0 completed 1"))
        self.ends("race(job(5,+1,0),timeout(5,job(9,+2,4)))", (None, "9.0 failed deadline"))
        # The timeout fails in the round behind its deadline, and only then the race is decided.
        self.ends(
            "race(job(6,+1,0),timeout(5,job(9,+2,0)))", (None, "5.2 failed deadline"), ((5, 0), "5.1 failed deadline"),
        )


class SequenceTest(Foretold):
    def test_one_after_another(self):
        self.runs(
            "sequence(job(2,+1,0),job(3,+2,0),job(1,+3,0))", None, "0 0.0 6.0 completed 3",
            "0.0.0 0.0 2.0 completed 1", "0.1.0 2.0 5.0 completed 2", "0.2.0 5.0 6.0 completed 3",
        )
        self.ends("sequence(job(0,+1,0),job(0,+2,0))", (None, "4.2 completed 2"), start=(4, 2))

    def test_a_part_fails(self):
        self.runs(
            "sequence(job(2,+1,0),job(3,-2,0),job(1,+3,0))", None, "0 0.0 5.0 failed 2",
            "0.0.0 0.0 2.0 completed 1", "0.1.0 2.0 5.0 failed 2",
        )

    def test_cancelled(self):
        self.runs(
            "sequence(job(2,+1,0),job(3,+2,0))", (2, 0), "0 0.0 2.1 cancelled -", "0.0.0 0.0 2.0 completed 1",
            "0.1.0 2.0 2.1 cancelled -",
        )
        self.runs("sequence(job(2,+1,0),job(3,+2,0))", (1, 9), "0 0.0 1.10 cancelled -", "0.0.0 0.0 1.10 cancelled -")
        self.ends("sequence(job(2,+1,0),job(3,+2,1,!6))", ((4, 0), "5.0 failed 6"), ((5, 0), "5.0 completed 2"))
        self.ends("sequence(job(2,+1,0),job(0,+2,0),job(0,+3,0))", ((2, 0), "2.0 completed 3"))


class OrelseTest(Foretold):
    def test_the_first_one_completes(self):
        self.runs("orelse(job(2,+5,0),job(3,+8,0))", None, "0 0.0 2.0 completed 5", "0.0.0 0.0 2.0 completed 5")

    def test_the_first_one_fails(self):
        self.runs(
            "orelse(job(2,-5,0),job(3,+8,0))", None, "0 0.0 5.0 completed 8", "0.0.0 0.0 2.0 failed 5",
            "0.1.0 2.0 5.0 completed 8",
        )
        self.ends("orelse(job(2,-5,0),job(3,-8,0))", (None, "5.0 failed 8"))
        for cancel in (None, (4, 2)):
            self.ends("orelse(job(0,-5,0),job(0,+8,0))", (cancel, "4.2 completed 8"), start=(4, 2))

    def test_cancelled(self):
        self.runs("orelse(job(2,-5,0),job(3,+8,0))", (1, 0), "0 0.0 1.1 cancelled -", "0.0.0 0.0 1.1 cancelled -")
        self.runs("orelse(job(9,-5,1,!4),job(3,+8,0))", (2, 0), "0 0.0 3.0 cancelled -", "0.0.0 0.0 3.0 failed 4")
        self.ends(
            "orelse(job(2,-5,0),job(3,+8,2,!9))", ((2, 0), "4.0 failed 9"), ((3, 0), "5.0 failed 9"),
            ((5, 0), "5.0 completed 8"),
        )

    def test_the_first_one_exceeds_its_deadline(self):
        self.ends(
            "orelse(timeout(3,job(5,+1,2)),job(1,+2,0))", (None, "6.0 completed 2"), ((3, 0), "5.0 cancelled -"),
            ((4, 9), "5.0 cancelled -"), ((5, 0), "5.1 cancelled -"),
        )


class RetryTest(Foretold):
    TEXT = "retry(2,3,job(1,-7,0))"

    def test_every_run_fails(self):
        self.runs(
            self.TEXT, None, "0 0.0 9.0 failed 7", "0.0.0 0.0 1.0 failed 7", "0.1.0 4.0 5.0 failed 7",
            "0.2.0 8.0 9.0 failed 7",
        )
        self.ends("retry(0,3,job(1,-7,0))", (None, "1.0 failed 7"))
        self.ends("retry(5,0,job(0,-7,0))", (None, "4.2 failed 7"), ((4, 2), "4.2 failed 7"), start=(4, 2))

    def test_a_run_completes(self):
        self.runs("retry(5,1,job(2,+3,0))", None, "0 0.0 2.0 completed 3", "0.0.0 0.0 2.0 completed 3")

    def test_cancelled_within_a_delay(self):
        self.runs(self.TEXT, (2, 5), "0 0.0 2.6 cancelled -", "0.0.0 0.0 1.0 failed 7")
        self.ends(self.TEXT, ((1, 0), "1.1 cancelled -"), ((3, 9), "3.10 cancelled -"), ((7, 0), "7.1 cancelled -"))

    def test_cancelled_when_the_next_run_starts(self):
        self.runs(
            self.TEXT, (4, 0), "0 0.0 4.1 cancelled -", "0.0.0 0.0 1.0 failed 7", "0.1.0 4.0 4.1 cancelled -",
        )
        self.runs(
            "retry(1,0,job(1,-7,0))", (1, 0), "0 0.0 1.1 cancelled -", "0.0.0 0.0 1.0 failed 7",
            "0.1.0 1.0 1.1 cancelled -",
        )

    def test_cancelled_at_the_end(self):
        self.ends(self.TEXT, ((8, 9), "8.10 cancelled -"), ((9, 0), "9.0 failed 7"), ((9, 1), "9.0 failed 7"))

    def test_a_run_fails_behind_the_cancellation(self):
        self.runs("retry(2,3,job(4,+7,1,!9))", (2, 0), "0 0.0 3.0 cancelled -", "0.0.0 0.0 3.0 failed 9")
        self.runs("retry(0,3,job(4,+7,1,!9))", (2, 0), "0 0.0 3.0 failed 9", "0.0.0 0.0 3.0 failed 9")
        self.runs(
            "retry(1,2,job(1,-7,1,!9))", (3, 0), "0 0.0 4.0 failed 9", "0.0.0 0.0 1.0 failed 7",
            "0.1.0 3.0 4.0 failed 9",
        )

    def test_parts_that_take_longer_to_fail(self):
        self.runs(
            "retry(1,0,race(job(2,-1,0),job(4,+2,1)))", None, "0 0.0 6.0 failed 1", "0.0.0 0.0 3.0 failed 1",
            "0.0.0.0.0 0.0 2.0 failed 1", "0.0.0.0.1 0.0 3.0 cancelled -", "0.1.0 3.0 6.0 failed 1",
            "0.1.0.0.0 3.0 5.0 failed 1", "0.1.0.0.1 3.0 6.0 cancelled -",
        )


class NestedTest(Foretold):
    def test_paths_and_their_order(self):
        self.runs(
            "all(sequence(job(1,+1,0),orelse(job(0,-2,0),job(1,+3,0))),timeout(9,race(job(3,+4,0),job(3,+5,0))))", None,
            "2.1.5 1.3 4.0 completed 3,4",
            "2.1.5.0.0 1.3 3.0 completed 3",
            "2.1.5.0.0.0.0 1.3 2.0 completed 1",
            "2.1.5.0.0.1.0 2.0 3.0 completed 3",
            "2.1.5.0.0.1.0.0.0 2.0 2.0 failed 2",
            "2.1.5.0.0.1.0.1.0 2.0 3.0 completed 3",
            "2.1.5.0.1 1.3 4.0 completed 4",
            "2.1.5.0.1.0.0 1.3 4.0 completed 4",
            "2.1.5.0.1.0.0.0.0 1.3 4.0 completed 4",
            "2.1.5.0.1.0.0.0.1 1.3 4.0 completed 5",
            start=(1, 3), path=(2, 1, 5),
        )

    def test_a_cancelled_part_of_a_part(self):
        self.runs(
            "any(all(job(6,+1,2),job(7,+2,0)),sequence(job(2,+3,0),job(2,+4,0)))", None,
            "0 0.0 6.0 completed 4", "0.0.0 0.0 6.0 cancelled -", "0.0.0.0.0 0.0 6.0 cancelled -",
            "0.0.0.0.1 0.0 4.1 cancelled -", "0.0.1 0.0 4.0 completed 4", "0.0.1.0.0 0.0 2.0 completed 3",
            "0.0.1.1.0 2.0 4.0 completed 4",
        )


if __name__ == "__main__":
    unittest.main()
