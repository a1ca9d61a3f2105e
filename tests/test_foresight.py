"""What holds of the foretelling of every plan, checked for many plans and cancellations."""

import copy
import unittest

from asforetold.foretelling import end_of, predict
from asforetold.outlooks import moments
from asforetold.plans import longest_cleanup
from tests.trees import around, flat, one_of_each_word, random_plans

STARTS = ((0, 0), (0, 2), (5, 0), (4, 3))


def courses():
    """Plans with starts and cancellations at, around and between their moments, and never."""
    for number, plan in enumerate(random_plans(31, 150) + [flat(one_of_each_word())]):
        start = STARTS[number % len(STARTS)]
        instants = around(moments(plan, start), start)
        for cancel in [None] + instants[::1 + len(instants) // 40]:
            yield plan, start, cancel


class ForesightTest(unittest.TestCase):
    def test_the_end_is_that_of_the_prediction(self):
        for plan, start, cancel in courses():
            ended, outcome, result, trace = predict(plan, (1,), start, cancel)
            self.assertEqual(end_of(plan, start, cancel), (ended, outcome, result))
            self.assertEqual(trace[0], ((1,), start, ended, outcome, result))

    def test_shapes(self):
        for plan, start, cancel in courses():
            trace = predict(plan, (1,), start, cancel)[3]
            self.assertIsInstance(trace, tuple)
            for entry in trace:
                path, _, _, outcome, result = entry
                self.assertEqual(len(path) % 2, 1)
                self.assertIsInstance(result, tuple)
                self.assertIn(outcome, ("completed", "failed", "cancelled"))
                self.assertEqual(len(result) == 0, outcome == "cancelled")
                self.assertEqual("deadline exceeded" in result and outcome == "completed", False)

    def test_the_paths_rise(self):
        for plan, start, cancel in courses():
            paths = [entry[0] for entry in predict(plan, (3, 0, 1), start, cancel)[3]]
            self.assertEqual(paths, sorted(set(paths)))
            for path in paths[1:]:
                self.assertIn(path[:-2], paths)
                self.assertEqual(path[:3], (3, 0, 1))

    def test_parts_run_while_the_whole_does(self):
        for plan, start, cancel in courses():
            trace = {entry[0]: entry for entry in predict(plan, (1,), start, cancel)[3]}
            for path, started, ended, _, _ in trace.values():
                if len(path) > 1:
                    self.assertLessEqual(ended, trace[path[:-2]][2])
                if started is not None:
                    self.assertLessEqual(started, ended)
                    self.assertLessEqual(start, started)

    def test_what_ends_at_the_cancellation_or_before_is_not_affected(self):
        for plan, start, cancel in courses():
            if cancel is not None:
                without = predict(plan, (1,), start, None)[3]
                with_it = predict(plan, (1,), start, cancel)[3]
                self.assertEqual(
                    [entry for entry in with_it if entry[2] <= cancel],
                    [entry for entry in without if entry[2] <= cancel],
                )

    def test_what_has_started_is_the_same_until_the_cancellation(self):
        for plan, start, cancel in courses():
            if cancel is not None:
                without = predict(plan, (1,), start, None)[3]
                with_it = predict(plan, (1,), start, cancel)[3]
                begun = [entry[:2] for entry in without if entry[1] is not None and entry[1] <= cancel]
                self.assertEqual([entry[:2] for entry in with_it if entry[1] is not None], begun)

    def test_nothing_completes_behind_the_cancellation(self):
        for plan, start, cancel in courses():
            if cancel is not None:
                for _, started, ended, outcome, _ in predict(plan, (1,), start, cancel)[3]:
                    self.assertFalse(ended > cancel and outcome == "completed")
                    self.assertTrue(started is None or started <= cancel)

    def test_all_has_ended_when_the_longest_cleanup_is_over(self):
        for plan, start, cancel in courses():
            if cancel is not None:
                ended = end_of(plan, start, cancel)[0]
                self.assertLessEqual(ended, max(cancel, (cancel[0] + longest_cleanup(plan), cancel[1] + 1)))

    def test_calls_do_not_affect_one_another(self):
        plan = flat(one_of_each_word())
        kept = copy.deepcopy(plan)
        before = [predict(plan, (0,), (0, 1), cancel) for cancel in (None, (0, 1), (9, 3))]
        after = [predict(plan, (0,), (0, 1), cancel) for cancel in (None, (0, 1), (9, 3))]
        self.assertEqual(before, after)
        self.assertEqual(plan, kept)


if __name__ == "__main__":
    unittest.main()
