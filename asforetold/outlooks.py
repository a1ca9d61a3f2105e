"""Outlooks, what can still come of a plan, and causes, which cancellation a trace is of."""

from asforetold.errors import OutOfRange
from asforetold.foretelling import Foresight
from asforetold.instants import later, next_instant


def moments(plan, start):
    """The instants at which something happens in the run without cancellation, rising, each once."""
    return find_moments(Foresight(plan), start)


def find_moments(sight, start):
    """What moments returns, for the plan of a foresight."""
    found = set()
    # The moments do not depend on the path, so that any path does.
    for place, entry in sight.rows_whole((0,), start, None):
        _, started, ended, _, _ = entry
        found.add(ended)
        if started is not None:
            found.add(started)
            if sight.plan[place][0] == "timeout":
                found.add(later(started, sight.plan[place][1]))
    return sorted(found)


def outlook(plan, start, since):
    """The rows of what can come of a plan that is cancelled at the instant since, or later, or never."""
    if since < start:
        raise OutOfRange("since")
    sight = Foresight(plan)
    rows = []
    for instant in [since] + [moment for moment in find_moments(sight, start) if moment > since]:
        _, outcome, result = sight.end_whole(start, instant)
        if len(rows) == 0 or rows[-1][1:] != (outcome, result):
            rows.append((instant, outcome, result))
    return rows


def cause(plan, path, start, trace):
    """Which cancellation a trace is of: ("never",), ("at", the earliest one), or None."""
    sight = Foresight(plan)
    if trace_of(sight, path, start, None) == trace:
        return ("never",)
    turns = find_moments(sight, start)
    for index, moment in enumerate(turns):
        until = turns[index + 1] if index + 1 < len(turns) else None
        likely = trace_of(sight, path, start, moment)
        if likely == trace:
            return ("at", moment)
        for instant in instants_to_try(moment, until, likely, trace):
            if trace_of(sight, path, start, instant) == trace:
                return ("at", instant)
    return None


def trace_of(sight, path, start, cancel):
    """The trace of the plan of a foresight."""
    return tuple([entry for _, entry in sight.rows_whole(path, start, cancel)])


def instants_to_try(moment, until, likely, trace):
    """The instants between two moments at which a cancellation may have this trace, rising.

    The trace likely is that of a cancellation at the first of the two moments. Nothing happens between them, so that
    a later cancellation has the same entries, but for the ends that it moves.
    """
    if len(likely) != len(trace):
        return []
    found = set()
    for mine, theirs in zip(likely, trace):
        instant = moved_cancel(moment, mine[2], theirs[2])
        if instant is not None and moment < instant and (until is None or instant < until):
            found.add(instant)
    return sorted(found)


def moved_cancel(moment, mine, theirs):
    """The earliest cancellation that can move an end from mine, where the moment has it, to theirs; or None."""
    time, turn = theirs
    if mine != next_instant(moment):
        # Behind a cleanup of some ticks the round is 0, whatever the round of the cancellation is.
        return (time - (mine[0] - moment[0]), 0)
    return (time, turn - 1) if turn > 0 else None
