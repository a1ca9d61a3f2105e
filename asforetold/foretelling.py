"""Foretelling: when and how a plan ends, and its trace, from its start and its cancellation alone.

An end is a tuple (ended, outcome, result). To be cancelled at None is never to be cancelled.
"""

from asforetold.errors import OutOfRange
from asforetold.instants import earliest, later, next_instant, not_after
from asforetold.paths import child_path
from asforetold.plans import parts_of


def predict(plan, path, start, cancel):
    """The prediction of a plan with this path, start and cancellation."""
    check_cancel(start, cancel)
    return Foresight(plan).predict_whole(path, start, cancel)


def end_of(plan, start, cancel):
    """The end of a plan with this start and cancellation."""
    check_cancel(start, cancel)
    return Foresight(plan).end_whole(start, cancel)


def job_end(node, start, cancel):
    """The end of a job with this start and cancellation."""
    check_cancel(start, cancel)
    _, duration, word, value, cleanup, fault = node
    ended = later(start, duration)
    if not_after(ended, cancel):
        return (ended, "completed" if word == "gives" else "failed", (value,))
    ended = later(next_instant(cancel), cleanup)
    if fault is None:
        return (ended, "cancelled", ())
    return (ended, "failed", (fault,))


def check_cancel(start, cancel):
    """Raise OutOfRange "cancel" if the cancellation is before the start."""
    if not not_after(start, cancel):
        raise OutOfRange("cancel")


def is_after(instant, cancel):
    """Whether something at an instant comes too late for a cancellation."""
    return not not_after(instant, cancel)


class Foresight:
    """A plan, and what has been found out about the runs of its nodes."""

    def __init__(self, plan):
        self.plan = plan
        self.known = {}

    def end_whole(self, start, cancel):
        """The end of the whole plan."""
        return self.end(len(self.plan) - 1, start, cancel)

    def predict_whole(self, path, start, cancel):
        """The prediction of the whole plan."""
        trace = tuple([entry for _, entry in self.rows_whole(path, start, cancel)])
        return self.end_whole(start, cancel) + (trace,)

    def rows_whole(self, path, start, cancel):
        """The entries of the trace of the whole plan in order, each behind the index of its node."""
        return self.rows(len(self.plan) - 1, path, start, cancel)

    def rows(self, place, path, start, cancel):
        """The entries of the trace of a run of a node in order, each behind the index of its node."""
        end, runs = self.course(place, start, cancel)
        found = [(place, (path, start) + end)]
        for scope, part, below, begun, until in runs:
            child = child_path(path, scope, part)
            if begun is not None:
                found.extend(self.rows(below, child, begun, until))
            elif until is not None:
                found.append((below, (child, None) + unstarted_end(until)))
        return found

    def end(self, place, start, cancel):
        """The end of a run of a node."""
        return self.course(place, start, cancel)[0]

    def course(self, place, start, cancel):
        """The end of a run of a node, and the rows (scope, part, place, start, cancellation) of its parts."""
        # What is around a node asks for the same run in both of its passes, and again for each cancellation.
        key = (place, start, cancel)
        if key not in self.known:
            self.known[key] = self.find_course(self.plan[place], start, cancel)
        return self.known[key]

    def find_course(self, node, start, cancel):
        """What course returns, found from the courses of the parts."""
        word = node[0]
        if word == "job":
            return (job_end(node, start, cancel), [])
        if word == "timeout":
            return self.timeout_course(node, start, cancel)
        if word == "sequence":
            return self.sequence_course(node, start, cancel)
        if word == "orelse":
            return self.orelse_course(node, start, cancel)
        if word == "retry":
            return self.retry_course(node, start, cancel)
        return self.group_course(node, start, cancel)

    def timeout_course(self, node, start, cancel):
        """The course of a timeout."""
        _, ticks, part = node
        deadline = later(start, ticks)
        until = earliest(cancel, deadline)
        runs = [(0, 0, part, start, until)]
        ended, outcome, result = self.end(part, start, until)
        if not_after(ended, until):
            return ((ended, outcome, result), runs)
        errors = result if outcome == "failed" else ()
        if not_after(deadline, cancel):
            return ((ended, "failed", ("deadline exceeded", *errors)), runs)
        return ((ended, "failed" if len(errors) > 0 else "cancelled", errors), runs)

    def sequence_course(self, node, start, cancel):
        """The course of a sequence."""
        runs = []
        end = (start, "completed", ())
        for scope, part in enumerate(parts_of(node)):
            if end[1] == "completed":
                runs.append((scope, 0, part, end[0], cancel))
                end = self.end(part, end[0], cancel)
        return (end, runs)

    def orelse_course(self, node, start, cancel):
        """The course of an orelse."""
        _, part, other = node
        runs = [(0, 0, part, start, cancel)]
        ended, outcome, result = self.end(part, start, cancel)
        if outcome == "completed":
            return ((ended, outcome, result), runs)
        if outcome == "failed" and not_after(ended, cancel):
            runs.append((1, 0, other, ended, cancel))
            return (self.end(other, ended, cancel), runs)
        return ((ended, "cancelled", ()), runs)

    def retry_course(self, node, start, cancel):
        """The course of a retry."""
        _, retries, delay, part = node
        runs = [(0, 0, part, start, cancel)]
        end = self.end(part, start, cancel)
        while end[1] == "failed" and len(runs) <= retries:
            if is_after(end[0], cancel):
                return ((end[0], "cancelled", ()), runs)
            begun = later(end[0], delay)
            if is_after(begun, cancel):
                return ((next_instant(cancel), "cancelled", ()), runs)
            runs.append((len(runs), 0, part, begun, cancel))
            end = self.end(part, begun, cancel)
        return (end, runs)

    def group_course(self, node, start, cancel):
        """The course of an all, a race, an any or a pool."""
        first = self.group_pass(node, start, cancel)
        until = earliest(cancel, decided_at(node[0], [end for _, end in first if end is not None]))
        second = self.group_pass(node, start, until)
        runs = []
        for part, below in enumerate(parts_of(node)):
            runs.append((0, part, below, second[part][0], until))
        ends = [end for _, end in second if end is not None]
        return (group_end(node[0], ends, until, cancel), runs)

    def group_pass(self, node, start, cancel):
        """The starts and ends of all parts, predicted with one cancellation; None where there is none."""
        parts = parts_of(node)
        # A group that is no pool is like a pool with a place for each of its parts.
        size = node[1] if node[0] == "pool" else len(parts)
        found = []
        for part, below in enumerate(parts):
            begun = start
            if part >= size:
                begun = freed_at(part - size, [end for _, end in found if end is not None])
            if begun is not None and not_after(begun, cancel):
                found.append((begun, self.end(below, begun, cancel)))
            elif cancel is not None:
                found.append((None, unstarted_end(cancel)))
            else:
                found.append((None, None))
        return found


def unstarted_end(cancel):
    """The end of a part of a pool that is never started."""
    return (next_instant(cancel), "cancelled", ())


def freed_at(index, ends):
    """The instant at which the place with this index becomes free in a pool whose earlier parts end so."""
    freed = sorted([ended for ended, outcome, _ in ends if outcome == "completed"])
    return freed[index] if index < len(freed) else None


def decided_at(word, ends):
    """The instant at which parts with these ends decide their group by themselves, or None."""
    if word == "race":
        return min([ended for ended, _, _ in ends], default=None)
    deciding = "completed" if word == "any" else "failed"
    return min([ended for ended, outcome, _ in ends if outcome == deciding], default=None)


def group_end(word, ends, until, cancel):
    """The end of a group with the cancellation cancel, whose parts, predicted with until, end so."""
    ended = max([part[0] for part in ends])
    outcomes = [part[1] for part in ends]
    failed = [part for part in ends if part[1] == "failed"]
    if word == "any" and "completed" in outcomes:
        failed = [part for part in failed if is_after(part[0], until)]
    if len(failed) > 0:
        return (ended, "failed", tuple([error for part in failed for error in part[2]]))
    completed = [part for part in ends if part[1] == "completed"]
    if is_after(ended, cancel) or len(completed) == 0:
        return (ended, "cancelled", ())
    if word in ("race", "any"):
        return (ended, "completed", min(completed, key=lambda part: part[0])[2])
    if "cancelled" in outcomes:
        return (ended, "cancelled", ())
    return (ended, "completed", tuple([value for part in completed for value in part[2]]))
