"""Instants: tuples (time, round), ordered by time and then by round; None stands for never."""

from asforetold.errors import OutOfRange

TIME_MOST = 1000000
ROUND_MOST = 1000


def check_instant(instant, what="instant"):
    """Raise OutOfRange with the name what if the instant is beyond its bounds."""
    time, turn = instant
    if not 0 <= time <= TIME_MOST or not 0 <= turn <= ROUND_MOST:
        raise OutOfRange(what)


def next_instant(instant):
    """The instant of the same time in the next round."""
    time, turn = instant
    return (time, turn + 1)


def later(instant, ticks):
    """The instant so many ticks after this one."""
    time, _ = instant
    # The round counts from 0 anew only where time passes.
    if ticks == 0:
        return instant
    return (time + ticks, 0)


def earliest(one, two):
    """The earlier one of two instants, each of which may be None (never)."""
    if not_after(one, two):
        return one
    return two


def not_after(instant, cancel):
    """Whether an instant is not after another one; None (never) is after all instants."""
    if cancel is None:
        return True
    return instant is not None and instant <= cancel
