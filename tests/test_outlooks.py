import copy
import random
import unittest

from asforetold.errors import OutOfRange
from asforetold.foretelling import end_of, predict
from asforetold.outlooks import cause, moments, outlook
from asforetold.sources import read_plan
from tests.trees import around, flat, grown, one_of_each_word, random_plans

STARTS = ((0, 0), (0, 2), (5, 0), (4, 3))
RACE = read_plan("race(job(4,+1,0),job(9,+2,3))")


def samples(seed, many):
    """Plans with starts."""
    for number, plan in enumerate(random_plans(seed, many) + [flat(one_of_each_word())]):
        yield plan, STARTS[number % len(STARTS)]


def starts_of_timeouts(tree, path, trace):
    """The instants at which timeouts of a tree were started in a trace, each with its ticks."""
    if path not in trace or trace[path][1] is None:
        return []
    found = [(trace[path][1], tree[1])] if tree[0] == "timeout" else []
    if tree[0] == "retry":
        below = [(tree[-1], path + (scope, 0)) for scope in range(tree[1] + 1)]
    elif tree[0] == "sequence":
        below = [(part, path + (scope, 0)) for scope, part in enumerate(tree[1])]
    elif tree[0] == "orelse":
        below = [(part, path + (scope, 0)) for scope, part in enumerate(tree[1:])]
    elif tree[0] == "timeout":
        below = [(tree[-1], path + (0, 0))]
    else:
        below = [(part, path + (0, index)) for index, part in enumerate(tree[-1])] if tree[0] != "job" else []
    for part, child in below:
        found.extend(starts_of_timeouts(part, child, trace))
    return found


class MomentsTest(unittest.TestCase):
    def moments_of(self, text, *expected, start=(0, 0)):
        self.assertEqual(moments(read_plan(text), start), list(expected), text)

    def test_starts_and_ends(self):
        self.moments_of("job(5,+1,3)", (0, 0), (5, 0))
        self.moments_of("job(5,+1,3)", (4, 2), (9, 0), start=(4, 2))
        self.moments_of("job(0,+1,3)", (4, 2), start=(4, 2))
        self.moments_of("race(job(4,+1,0),job(9,+2,3))", (0, 0), (4, 0), (7, 0))
        self.moments_of("all(job(2,-5,0),job(9,+1,0,!6))", (0, 0), (2, 0), (2, 1))
        self.moments_of("retry(1,3,job(1,-7,0))", (0, 0), (1, 0), (4, 0), (5, 0))
        self.moments_of("sequence(job(2,+1,0),job(2,+2,0),job(0,+3,0))", (0, 0), (2, 0), (4, 0))
        self.moments_of("pool(1,job(2,-1,4),job(2,+2,0))", (0, 0), (2, 0), (2, 1))

    def test_deadlines(self):
        self.moments_of("timeout(5,job(9,+1,2))", (0, 0), (5, 0), (7, 0))
        self.moments_of("timeout(5,job(2,+1,2))", (0, 0), (2, 0), (5, 0))
        self.moments_of("timeout(0,job(0,+1,2))", (4, 2), start=(4, 2))
        self.moments_of("timeout(3,job(1,+1,2))", (4, 2), (5, 0), (7, 0), start=(4, 2))
        self.moments_of(
            "sequence(job(2,+1,0),timeout(9,job(1,-2,0)),timeout(50,job(1,+3,0)))", (0, 0), (2, 0), (3, 0), (11, 0),
        )
        self.moments_of("pool(1,job(2,-1,4),timeout(7,job(2,+2,0)))", (0, 0), (2, 0), (2, 1))

    def test_all_of_them(self):
        for plan, start in samples(41, 150):
            trace = predict(plan, (0,), start, None)[3]
            expected = {entry[1] for entry in trace if entry[1] is not None} | {entry[2] for entry in trace}
            entries = {entry[0]: entry for entry in trace}
            for (time, turn), ticks in starts_of_timeouts(grown(plan, len(plan) - 1), (0,), entries):
                expected.add((time + ticks, 0) if ticks > 0 else (time, turn))
            self.assertEqual(moments(plan, start), sorted(expected))

    def test_the_list_is_new_each_time(self):
        first = moments(RACE, (0, 0))
        first.append((99, 9))
        first[0] = (50, 0)
        self.assertEqual(moments(RACE, (0, 0)), [(0, 0), (4, 0), (7, 0)])


class OutlookTest(unittest.TestCase):
    def test_a_race(self):
        rows = [((0, 0), "cancelled", ()), ((7, 0), "completed", (1,))]
        self.assertEqual(outlook(RACE, (0, 0), (0, 0)), rows)
        self.assertEqual(outlook(RACE, (0, 0), (3, 5)), [((3, 5), "cancelled", ()), rows[1]])
        self.assertEqual(outlook(RACE, (0, 0), (6, 9)), [((6, 9), "cancelled", ()), rows[1]])
        self.assertEqual(outlook(RACE, (0, 0), (7, 0)), [rows[1]])
        self.assertEqual(outlook(RACE, (0, 0), (50, 3)), [((50, 3), "completed", (1,))])

    def test_rows_that_differ_in_their_results_alone(self):
        plan = read_plan("retry(1,2,job(3,-7,1,!9))")
        self.assertEqual(outlook(plan, (0, 0), (0, 0)), [
            ((0, 0), "cancelled", ()), ((5, 0), "failed", (9,)), ((8, 0), "failed", (7,)),
        ])

    def test_neighbouring_rows_of_a_deadline(self):
        plan = read_plan("timeout(5,job(9,+1,2))")
        self.assertEqual(outlook(plan, (4, 2), (4, 2)), [
            ((4, 2), "cancelled", ()), ((9, 0), "failed", ("deadline exceeded",)),
        ])

    def test_one_row(self):
        self.assertEqual(outlook(read_plan("job(0,+1,0)"), (4, 2), (4, 2)), [((4, 2), "completed", (1,))])
        self.assertEqual(outlook(read_plan("job(3,-1,2,!1)"), (4, 2), (4, 2)), [((4, 2), "failed", (1,))])

    def test_since_before_the_start(self):
        for start, since in (((4, 2), (4, 1)), ((4, 2), (3, 9)), ((1, 0), (0, 0)), ((0, 1), (0, 0))):
            with self.assertRaises(OutOfRange) as caught:
                outlook(RACE, start, since)
            self.assertEqual(caught.exception.name, "since")

    def test_the_row_of_every_cancellation(self):
        for plan, start in samples(42, 120):
            instants = around(moments(plan, start), start)
            ends = {cancel: end_of(plan, start, cancel)[1:] for cancel in instants}
            for since in instants[::1 + len(instants) // 6]:
                rows = outlook(plan, start, since)
                self.assertEqual(rows[0][0], since)
                self.assertEqual(rows[-1][1:], end_of(plan, start, None)[1:])
                for one, two in zip(rows, rows[1:]):
                    self.assertLess(one[0], two[0])
                    self.assertNotEqual(one[1:], two[1:])
                for cancel in instants:
                    if cancel >= since:
                        row = [row for row in rows if row[0] <= cancel][-1]
                        self.assertEqual(row[1:], ends[cancel], (plan, start, since, cancel))

    def test_the_list_is_new_each_time(self):
        rows = outlook(RACE, (0, 0), (0, 0))
        kept = copy.deepcopy(rows)
        rows.reverse()
        rows.append(((1, 1), "failed", (1,)))
        self.assertEqual(outlook(RACE, (0, 0), (0, 0)), kept)


def changed(trace, at, kind):
    """The trace with a change of a kind at an entry."""
    path, started, ended, outcome, result = trace[at]
    time, turn = ended
    begun = (0, 0) if started is None else started
    entry = (
        (path, started, (time + 1, turn), outcome, result), (path, started, (time - 1, turn), outcome, result),
        (path, started, (time, turn + 1), outcome, result), (path, started, (time, turn - 1), outcome, result),
        (path, None, ended, outcome, result), (path, (begun[0] + 1, begun[1]), ended, outcome, result),
        (path, (begun[0], begun[1] + 1), ended, outcome, result), (path, started, ended, "failed", (0,)),
        (path, started, ended, "cancelled", ()), (path, started, ended, outcome, (*result, 3)),
    )
    if kind < len(entry):
        return trace[:at] + (entry[kind],) + trace[at + 1:]
    return trace[:at] + trace[at + 1:]


class CauseTest(unittest.TestCase):
    def causes(self, text, cancel, expected, start=(0, 0), path=(0,)):
        plan = read_plan(text)
        trace = predict(plan, path, start, cancel)[3]
        self.assertEqual(cause(plan, path, start, trace), expected, (text, cancel))

    def test_never(self):
        self.causes("job(5,+1,0)", None, ("never",))
        self.causes("job(5,+1,0)", (5, 0), ("never",))
        self.causes("job(5,+1,0)", (9, 3), ("never",))
        self.causes("race(job(4,+1,0),job(9,+2,3))", (7, 0), ("never",))
        self.causes("timeout(5,job(9,+1,2))", (5, 0), ("never",))
        self.causes("all(job(2,-5,0),job(9,+1,10))", (2, 0), ("never",))

    def test_the_instant_of_the_cancellation(self):
        for cancel in ((4, 2), (4, 3), (4, 7), (5, 0), (8, 0), (8, 12)):
            self.causes("job(5,+1,0)", cancel, ("at", cancel), start=(4, 2), path=(2, 0, 1))

    def test_the_earliest_instant(self):
        self.causes("job(5,+1,3)", (4, 7), ("at", (4, 2)), start=(4, 2))
        self.causes("job(5,+1,3)", (6, 7), ("at", (6, 0)), start=(4, 2))
        self.causes("race(job(4,+1,0),job(9,+2,3))", (6, 2), ("at", (4, 0)))
        self.causes("race(job(4,+1,0),job(9,+2,3))", (3, 2), ("at", (3, 2)))
        self.causes("race(job(4,+1,1),job(9,+2,3))", (3, 2), ("at", (3, 0)))
        self.causes("all(job(4,+1,1),job(9,+2,0))", (3, 2), ("at", (3, 2)))
        self.causes("retry(3,4,job(1,-1,5))", (3, 2), ("at", (3, 2)))

    def test_none(self):
        plan = read_plan("all(job(4,+1,1),job(9,+2,0))")
        trace = predict(plan, (0,), (0, 0), (3, 2))[3]
        # The second job cleans up in no time, so that its end in another round tells of another cancellation.
        others = {(2, 2): ("at", (3, 3)), (2, 3): ("at", (3, 1))}
        for at in range(len(trace)):
            for kind in range(11):
                if changed(trace, at, kind) != trace:
                    found = cause(plan, (0,), (0, 0), changed(trace, at, kind))
                    self.assertEqual(found, others.get((at, kind)), (at, kind))
        self.assertIsNone(cause(plan, (1,), (0, 0), trace))
        self.assertIsNone(cause(plan, (0,), (0, 1), trace))
        self.assertIsNone(cause(plan, (0,), (0, 0), ()))
        self.assertIsNone(cause(plan, (0,), (0, 0), trace + trace))

    def test_not_before_the_start(self):
        plan = read_plan("job(9,+1,0)")
        for ended, expected in (((4, 4), ("at", (4, 3))), ((4, 3), None), ((5, 0), None), ((5, 1), ("at", (5, 0)))):
            self.assertEqual(cause(plan, (0,), (4, 3), (((0,), (4, 3), ended, "cancelled", ()),)), expected)
        plan = read_plan("job(9,+1,2)")
        for ended, expected in (((6, 0), ("at", (4, 3))), ((5, 0), None), ((6, 1), None), ((7, 0), ("at", (5, 0)))):
            self.assertEqual(cause(plan, (0,), (4, 3), (((0,), (4, 3), ended, "cancelled", ()),)), expected)

    def test_as_found_by_trying_every_instant(self):
        dice = random.Random(43)
        for plan, start in samples(44, 120):
            last = max(moments(plan, start))[0]
            if last - start[0] > 40:
                continue
            # No trace that is asked for below is that of a later round or time.
            instants = [(time, turn) for time in range(start[0], last + 3) for turn in range(10)]
            first = {}
            for cancel in [cancel for cancel in instants if cancel >= start]:
                first.setdefault(predict(plan, (0,), start, cancel)[3], ("at", cancel))
            first[predict(plan, (0,), start, None)[3]] = ("never",)
            shown = [trace for trace, found in first.items() if found == ("never",) or found[1][1] < 7]
            for trace in dice.sample(shown, min(6, len(shown))):
                self.assertEqual(cause(plan, (0,), start, trace), first[trace])
                other = changed(trace, dice.randrange(len(trace)), dice.randrange(11))
                self.assertEqual(cause(plan, (0,), start, other), first.get(other), (plan, start, other))


if __name__ == "__main__":
    unittest.main()
