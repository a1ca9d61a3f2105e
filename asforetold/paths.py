"""Paths: tuples of integers that identify tasks and scopes, ordered as tuples."""

from asforetold.texts import DIGITS_MOST, writes_number


def write_path(path):
    """The written form of a path: its integers, separated by full stops."""
    return ".".join([str(number) for number in path])


def read_path(text):
    """The path that a text writes, or None if it is no written path."""
    numbers = text.split(".")
    if not all([writes_number(number) and len(number) <= DIGITS_MOST for number in numbers]):
        return None
    return tuple([int(number) for number in numbers])


def is_above(one, two):
    """Whether the path two consists of the path one and at least one more integer."""
    return len(one) < len(two) and two[:len(one)] == one


def is_below(path, paths):
    """Whether one of the paths is above the path."""
    return any([is_above(one, path) for one in paths])


def child_path(path, scope, part):
    """The path of a part of a scope that was opened by the task with this path."""
    return path + (scope, part)
