"""Deeds: what is done to a scheduler, within their bounds, and as text."""

from asforetold.errors import OutOfRange, TextFault
from asforetold.plans import check_plan
from asforetold.scheduler import ROOTS_MOST, TICKS_MOST
from asforetold.sources import read_plan, write_plan
from asforetold.texts import DIGITS_MOST, writes_number

# What the number of a deed is called, for the words that stand before a number.
NUMBER_NAMES = {"cancel": "root", "advance": "ticks"}


def check_deed(deed):
    """Raise OutOfRange with the name of what is beyond its bounds in a deed."""
    word, content = deed
    if word == "spawn":
        check_plan(content)
    elif not is_within(word, content):
        raise OutOfRange(NUMBER_NAMES[word])


def is_within(word, number):
    """Whether the number of a deed that begins with this word is within its bounds."""
    most = ROOTS_MOST - 1 if word == "cancel" else TICKS_MOST
    return 0 <= number <= most


def write_deed(deed):
    """The written form of a deed."""
    word, content = deed
    written = write_plan(content) if word == "spawn" else str(content)
    return f"{word} {written}"


def read_deed(text):
    """The deed that a text writes, or None if it is no written deed within its bounds."""
    word, _, written = text.partition(" ")
    if word == "spawn":
        return read_spawn(written)
    # Python refuses to read a number of thousands of digits, which is beyond all bounds anyway.
    if word not in NUMBER_NAMES or not writes_number(written) or len(written) > DIGITS_MOST:
        return None
    if not is_within(word, int(written)):
        return None
    return (word, int(written))


def read_spawn(text):
    """The deed that spawns the plan that a text writes, or None."""
    try:
        plan = read_plan(text)
    except (OutOfRange, TextFault):
        return None
    # Plans are read with spaces and newlines, too, but not written with them.
    if write_plan(plan) != text:
        return None
    return ("spawn", plan)
