"""Plans: tuples of nodes, in which every part of a node stands before the node."""

from asforetold.errors import OutOfRange

NODES_MOST = 40
DEPTH_MOST = 8
RUNS_MOST = 60
PARTS_MOST = 6

# How many items a node of each word has, the word included.
LENGTHS = {
    "job": 6,
    "all": 2,
    "race": 2,
    "any": 2,
    "pool": 3,
    "timeout": 3,
    "sequence": 2,
    "orelse": 3,
    "retry": 4,
}

# The numbers of a node of each word: at which place, from which least to which greatest value.
NUMBERS = {
    "job": ((1, 0, 1000), (3, 0, 999), (4, 0, 100)),
    "all": (),
    "race": (),
    "any": (),
    "pool": ((1, 1, 6),),
    "timeout": ((1, 0, 1000),),
    "sequence": (),
    "orelse": (),
    "retry": ((1, 0, 5), (2, 0, 100)),
}

# A fault is not among the numbers above, because it may be None.
FAULT_MOST = 999


def parts_of(node):
    """The tuple of the indexes of the parts of a node, in order."""
    word = node[0]
    if word == "job":
        return ()
    if word in ("timeout", "retry"):
        return (node[-1],)
    if word == "orelse":
        return (node[1], node[2])
    return node[-1]


def check_plan(plan):
    """Raise OutOfRange "plan" unless this is a plan in all its bounds."""
    if not is_plan(plan):
        raise OutOfRange("plan")


def is_plan(plan):
    """Whether this is a plan; each test stands on what those before it have found."""
    if not isinstance(plan, tuple) or not 1 <= len(plan) <= NODES_MOST:
        return False
    if not all([is_node(node) for node in plan]):
        return False
    if not are_in_order(plan):
        return False
    return depths(plan)[-1] <= DEPTH_MOST and job_runs(plan) <= RUNS_MOST


def is_node(node):
    """Whether a node has its shape and its bounds, whatever its parts refer to."""
    if not isinstance(node, tuple) or len(node) == 0:
        return False
    word = node[0]
    if not isinstance(word, str) or word not in LENGTHS or len(node) != LENGTHS[word]:
        return False
    if not all([is_number(node[place], least, most) for place, least, most in NUMBERS[word]]):
        return False
    if word == "job":
        return node[2] in ("gives", "throws") and is_fault(node[5])
    return are_parts(parts_of(node))


def is_number(value, least, most):
    """Whether a value is an integer from least to most."""
    # True and False are not integers for the document, but they are for isinstance.
    if not isinstance(value, int) or isinstance(value, bool):
        return False
    return least <= value <= most


def is_fault(value):
    """Whether a value can be the fault of a job."""
    return value is None or is_number(value, 0, FAULT_MOST)


def are_parts(parts):
    """Whether these can be the parts of a node of a plan."""
    if not isinstance(parts, tuple) or not 1 <= len(parts) <= PARTS_MOST:
        return False
    return all([is_number(part, 0, NODES_MOST - 1) for part in parts])


def are_in_order(plan):
    """Whether each node has for its parts just the last nodes that are not yet a part of another."""
    row = []
    for index, node in enumerate(plan):
        parts = parts_of(node)
        # Fewer indexes than parts make this negative: the slice is then too short to be the parts.
        first = len(row) - len(parts)
        if tuple(row[first:]) != parts:
            return False
        row = row[:first] + [index]
    return len(row) == 1


def depths(plan):
    """The list of the depths of all nodes, in order."""
    found = []
    for node in plan:
        found.append(1 + max([found[part] for part in parts_of(node)], default=0))
    return found


def job_count(plan):
    """How many jobs the plan has."""
    return len([node for node in plan if node[0] == "job"])


def job_runs(plan):
    """How often jobs of the plan can run at most, all together."""
    runs = []
    for node in plan:
        if node[0] == "job":
            runs.append(1)
        else:
            runs.append(times_run(node) * sum([runs[part] for part in parts_of(node)]))
    return runs[-1]


def times_run(node):
    """How often a node runs each of its parts at most."""
    if node[0] == "retry":
        return node[1] + 1
    return 1


def longest_cleanup(plan):
    """The greatest cleanup of the jobs of the plan."""
    return max([node[4] for node in plan if node[0] == "job"])
