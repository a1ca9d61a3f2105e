"""Plans as text: writing a plan, and reading one with the first fault at its line and column."""

from asforetold.errors import OutOfRange
from asforetold.plans import (
    DEPTH_MOST, FAULT_MOST, LENGTHS, NODES_MOST, NUMBERS, PARTS_MOST, RUNS_MOST, job_runs, parts_of,
)
from asforetold.texts import raise_fault, writes_number

SOURCE_MOST = 2000

# No bound of a plan has more digits.
BOUND_DIGITS = 4


def write_plan(plan):
    """The written form of a plan."""
    written = []
    for node in plan:
        written.append(write_node(node, [written[part] for part in parts_of(node)]))
    return written[-1]


def write_node(node, parts):
    """The written form of a node whose parts have these written forms."""
    word = node[0]
    if word == "job":
        return write_job(node)
    numbers = [str(node[place]) for place, _, _ in NUMBERS[word]]
    return word + "(" + ",".join(numbers + parts) + ")"


def write_job(node):
    """The written form of a job."""
    _, duration, word, value, cleanup, fault = node
    sign = "+" if word == "gives" else "-"
    ending = "" if fault is None else f",!{fault}"
    return f"job({duration},{sign}{value},{cleanup}{ending})"


def read_plan(text):
    """The plan that a text writes; raise OutOfRange "text" or TextFault if there is none."""
    if len(text) > SOURCE_MOST:
        raise OutOfRange("text")
    reader = PlanReader(text)
    reader.read_node(1, 0)
    if reader.token() != "":
        reader.refuse("expected the end")
    plan = tuple(reader.nodes)
    if job_runs(plan) > RUNS_MOST:
        reader.refuse("too many runs")
    return plan


def split_tokens(text):
    """The list of the tokens of a text, each with the index of its first character."""
    tokens = []
    at = 0
    while at < len(text):
        end = token_end(text, at)
        if text[at] not in " \n":
            tokens.append((text[at:end], at))
        at = end
    return tokens


def token_end(text, at):
    """The index behind the token that begins at an index: words and numbers are as long as they can be."""
    end = at + 1
    if is_letter(text[at]):
        while end < len(text) and is_letter(text[end]):
            end += 1
    elif text[at].isdigit():
        while end < len(text) and text[end].isdigit():
            end += 1
    return end


def is_letter(char):
    """Whether a character can be in a word."""
    return "a" <= char <= "z"


class PlanReader:
    """A text that is read token by token, and the nodes that have been read from it."""

    def __init__(self, text):
        self.text = text
        self.tokens = split_tokens(text)
        self.at = 0
        # Nodes are put here when they end, but they count when they begin.
        self.nodes = []
        self.begun = 0

    def token(self):
        """The token that is read next; the empty text at the end."""
        if self.at < len(self.tokens):
            return self.tokens[self.at][0]
        return ""

    def refuse(self, words):
        """Raise TextFault at the token that is read next, or at the end of the text."""
        place = len(self.text)
        if self.at < len(self.tokens):
            place = self.tokens[self.at][1]
        raise_fault(self.text, place, words)

    def take(self, sign, words):
        """Go behind a sign, which must stand here."""
        if self.token() != sign:
            self.refuse(words)
        self.at += 1

    def take_one_of(self, signs, words):
        """Go behind one of two signs, and return it."""
        sign = self.token()
        if sign not in signs:
            self.refuse(words)
        self.at += 1
        return sign

    def read_number(self, least, most):
        """Read a number from least to most."""
        digits = self.token()
        if not writes_number(digits):
            self.refuse("expected a number")
        if len(digits) > BOUND_DIGITS or int(digits) > most:
            self.refuse("number too large")
        if int(digits) < least:
            self.refuse("number too small")
        self.at += 1
        return int(digits)

    def read_bounded(self, word, index):
        """Read the number with this index of a node of a word."""
        _, least, most = NUMBERS[word][index]
        return self.read_number(least, most)

    def read_node(self, depth, part):
        """Read a plan at a depth from the whole, the part with this index of the one around it; its index."""
        word = self.token()
        if word not in LENGTHS:
            self.refuse("expected a plan")
        if depth > DEPTH_MOST:
            self.refuse("too deep")
        if part >= PARTS_MOST:
            self.refuse("too many parts")
        if self.begun >= NODES_MOST:
            self.refuse("too many nodes")
        self.begun += 1
        self.at += 1
        self.take("(", "expected (")
        node = self.read_inside(word, depth)
        self.nodes.append(node)
        return len(self.nodes) - 1

    def read_inside(self, word, depth):
        """Read what stands in a node behind its parenthesis, the closing one too; the node."""
        if word == "job":
            return self.read_job()
        if word == "orelse":
            return self.read_orelse(depth)
        numbers = []
        for index in range(len(NUMBERS[word])):
            numbers.append(self.read_bounded(word, index))
            self.take(",", "expected ,")
        if word in ("timeout", "retry"):
            part = self.read_node(depth + 1, 0)
            self.take(")", "expected )")
            return (word, *numbers, part)
        return (word, *numbers, self.read_parts(depth))

    def read_job(self):
        """Read what stands in a job."""
        duration = self.read_bounded("job", 0)
        self.take(",", "expected ,")
        word = "gives" if self.take_one_of(("+", "-"), "expected + or -") == "+" else "throws"
        value = self.read_bounded("job", 1)
        self.take(",", "expected ,")
        cleanup = self.read_bounded("job", 2)
        if self.take_one_of((",", ")"), "expected , or )") == ")":
            return ("job", duration, word, value, cleanup, None)
        self.take("!", "expected !")
        fault = self.read_number(0, FAULT_MOST)
        self.take(")", "expected )")
        return ("job", duration, word, value, cleanup, fault)

    def read_orelse(self, depth):
        """Read what stands in an orelse."""
        part = self.read_node(depth + 1, 0)
        self.take(",", "expected ,")
        other = self.read_node(depth + 1, 1)
        self.take(")", "expected )")
        return ("orelse", part, other)

    def read_parts(self, depth):
        """Read plans with commas between them, and the closing parenthesis; the tuple of their indexes."""
        parts = [self.read_node(depth + 1, 0)]
        while self.take_one_of((",", ")"), "expected , or )") == ",":
            parts.append(self.read_node(depth + 1, len(parts)))
        return tuple(parts)
