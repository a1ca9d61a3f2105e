"""Traces as text: writing a trace, and reading one with the first fault at its line and column."""

from asforetold.errors import OutOfRange
from asforetold.paths import read_path, write_path
from asforetold.texts import raise_fault, writes_number

TRACE_MOST = 20000

# At most so many results has an entry that is read, each an integer of at most so many digits or a deadline.
RESULTS_MOST = 60
RESULT_DIGITS = 3

OUTCOMES = ("completed", "failed", "cancelled")
DEADLINE = "deadline exceeded"


def write_trace(trace):
    """The written form of a trace: a line for each entry."""
    return "".join([write_entry(entry) for entry in trace])


def write_entry(entry):
    """The line of an entry, with its newline."""
    path, started, ended, outcome, result = entry
    begun = "-" if started is None else write_path(started)
    return f"{write_path(path)} {begun} {write_path(ended)} {outcome} {write_results(result)}\n"


def write_results(result):
    """The written form of the results of an entry."""
    if len(result) == 0:
        return "-"
    return ",".join(["deadline" if part == DEADLINE else str(part) for part in result])


def read_trace(text):
    """The trace that a text writes; raise OutOfRange "text" or TextFault if there is none."""
    if len(text) > TRACE_MOST:
        raise OutOfRange("text")
    reader = TraceReader(text)
    entries = []
    while reader.at < len(text):
        entries.append(reader.read_entry())
    return tuple(entries)


def read_instant(text):
    """The instant that a text writes, or None."""
    numbers = read_path(text)
    if numbers is None or len(numbers) != 2:
        return None
    return numbers


def read_outcome(text):
    """The outcome that a text writes, or None."""
    return text if text in OUTCOMES else None


def read_results(text):
    """The results that a text writes, or None."""
    if text == "-":
        return ()
    parts = text.split(",")
    if len(parts) > RESULTS_MOST or not all([writes_result(part) for part in parts]):
        return None
    return tuple([DEADLINE if part == "deadline" else int(part) for part in parts])


def writes_result(text):
    """Whether a text writes one result."""
    return text == "deadline" or (writes_number(text) and len(text) <= RESULT_DIGITS)


class TraceReader:
    """A text that is read part by part, and the index at which the next part begins."""

    def __init__(self, text):
        self.text = text
        self.at = 0

    def part(self):
        """The part that begins here: it extends to the next space or newline, or to the end of the text."""
        end = self.at
        while end < len(self.text) and self.text[end] not in " \n":
            end += 1
        return self.text[self.at:end]

    def read_part(self, reading, words):
        """Go behind the part that begins here, and return what the function reading makes of it."""
        part = self.part()
        found = reading(part)
        if found is None:
            raise_fault(self.text, self.at, words)
        self.at += len(part)
        return found

    def read_start(self):
        """Go behind the start of a task, and return it; None where the task was never started."""
        if self.part() == "-":
            self.at += 1
            return None
        return self.read_part(read_instant, "expected an instant")

    def take(self, sign, words):
        """Go behind a sign, which must stand here."""
        if self.text[self.at:self.at + 1] != sign:
            raise_fault(self.text, self.at, words)
        self.at += 1

    def read_entry(self):
        """Read a line."""
        path = self.read_part(read_path, "expected a path")
        self.take(" ", "expected a space")
        started = self.read_start()
        self.take(" ", "expected a space")
        ended = self.read_part(read_instant, "expected an instant")
        self.take(" ", "expected a space")
        outcome = self.read_part(read_outcome, "expected an outcome")
        self.take(" ", "expected a space")
        result = self.read_part(read_results, "expected results")
        self.take("\n", "expected a newline")
        return (path, started, ended, outcome, result)
