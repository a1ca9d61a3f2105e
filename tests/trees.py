"""Plans for the tests: trees, in which parts stand in place of their indexes, made flat."""


def job(duration=1, word="gives", value=1, cleanup=0, fault=None):
    return ("job", duration, word, value, cleanup, fault)


def jobs(many):
    """So many jobs, no two of which are equal."""
    return tuple(job(value=value) for value in range(many))


def flat(tree):
    """The plan for a tree: all nodes of the first part, of the second one .., then the node."""
    nodes = []
    put(tree, nodes)
    return tuple(nodes)


def put(tree, nodes):
    """Put the nodes of a tree behind the nodes; the index of the last one."""
    word = tree[0]
    if word == "job":
        node = tree
    elif word == "orelse":
        node = ("orelse", put(tree[1], nodes), put(tree[2], nodes))
    elif word in ("timeout", "retry"):
        node = (*tree[:-1], put(tree[-1], nodes))
    else:
        node = (*tree[:-1], tuple([put(part, nodes) for part in tree[-1]]))
    nodes.append(node)
    return len(nodes) - 1


def grown(nodes, at):
    """The tree of the node with an index, or None if it refers to what does not stand before it."""
    node = nodes[at]
    word = node[0]
    if word == "job":
        return node
    indexes = {"orelse": node[1:], "timeout": node[2:], "retry": node[3:]}.get(word, node[-1])
    if not all(0 <= index < at for index in indexes):
        return None
    parts = tuple([grown(nodes, index) for index in indexes])
    if None in parts:
        return None
    if word == "orelse":
        return ("orelse", *parts)
    if word in ("timeout", "retry"):
        return (*node[:-1], *parts)
    return (*node[:-1], parts)


def branches(tree):
    """The parts of a tree."""
    if tree[0] == "job":
        return ()
    if tree[0] == "orelse":
        return tree[1:]
    if tree[0] in ("timeout", "retry"):
        return tree[-1:]
    return tree[-1]


def height(tree):
    return 1 + max([height(part) for part in branches(tree)], default=0)


def runs(tree):
    """The job runs of a tree, counted by running through it again for every retry."""
    if tree[0] == "job":
        return 1
    times = tree[1] + 1 if tree[0] == "retry" else 1
    return sum(runs(part) for part in branches(tree) for _ in range(times))


def one_of_each_word():
    """A tree with all nine words and ten jobs."""
    return ("sequence", (
        ("all", (job(3, "gives", 1, 2, 7), job(0, "throws", 2))),
        ("race", (job(4, "gives", 3, 5), job(9, "gives", 4, 3))),
        ("any", (job(1, "throws", 5), ("timeout", 6, job(8, "gives", 6, 100, 0)))),
        ("pool", 2, (job(1000, "gives", 7), job(0, "gives", 8))),
        ("orelse", job(2, "throws", 9), ("retry", 2, 3, job(5, "throws", 999, 1, 999))),
    ))
