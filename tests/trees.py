"""What the tests share: plans, as trees in which parts stand in place of their indexes, made flat; disks and deeds."""

import random

from asforetold.scheduler import Scheduler


def job(duration=1, word="gives", value=1, cleanup=0, fault=None):
    return ("job", duration, word, value, cleanup, fault)


def jobs(many):
    """So many jobs, no two of which are equal."""
    return tuple(job(value=value) for value in range(many))


def flat(tree):
    """The plan for a tree: all nodes of the first part, of the second one .., then the node."""
    nodes = []
    put(tree, nodes)
    return tuple(nodes)


def put(tree, nodes):
    """Put the nodes of a tree behind the nodes; the index of the last one."""
    word = tree[0]
    if word == "job":
        node = tree
    elif word == "orelse":
        node = ("orelse", put(tree[1], nodes), put(tree[2], nodes))
    elif word in ("timeout", "retry"):
        node = (*tree[:-1], put(tree[-1], nodes))
    else:
        node = (*tree[:-1], tuple([put(part, nodes) for part in tree[-1]]))
    nodes.append(node)
    return len(nodes) - 1


def grown(nodes, at):
    """The tree of the node with an index, or None if it refers to what does not stand before it."""
    node = nodes[at]
    word = node[0]
    if word == "job":
        return node
    indexes = {"orelse": node[1:], "timeout": node[2:], "retry": node[3:]}.get(word, node[-1])
    if not all(0 <= index < at for index in indexes):
        return None
    parts = tuple([grown(nodes, index) for index in indexes])
    if None in parts:
        return None
    if word == "orelse":
        return ("orelse", *parts)
    if word in ("timeout", "retry"):
        return (*node[:-1], *parts)
    return (*node[:-1], parts)


def branches(tree):
    """The parts of a tree."""
    if tree[0] == "job":
        return ()
    if tree[0] == "orelse":
        return tree[1:]
    if tree[0] in ("timeout", "retry"):
        return tree[-1:]
    return tree[-1]


def height(tree):
    return 1 + max([height(part) for part in branches(tree)], default=0)


def runs(tree):
    """The job runs of a tree, counted by running through it again for every retry."""
    if tree[0] == "job":
        return 1
    times = tree[1] + 1 if tree[0] == "retry" else 1
    return sum(runs(part) for part in branches(tree) for _ in range(times))


def one_of_each_word():
    """A tree with all nine words and ten jobs."""
    return ("sequence", (
        ("all", (job(3, "gives", 1, 2, 7), job(0, "throws", 2))),
        ("race", (job(4, "gives", 3, 5), job(9, "gives", 4, 3))),
        ("any", (job(1, "throws", 5), ("timeout", 6, job(8, "gives", 6, 100, 0)))),
        ("pool", 2, (job(1000, "gives", 7), job(0, "gives", 8))),
        ("orelse", job(2, "throws", 9), ("retry", 2, 3, job(5, "throws", 999, 1, 999))),
    ))


def random_tree(dice, depth):
    """A tree of small numbers, at most so deep, so that much of it happens at the same instants."""
    if depth <= 1 or dice.random() < 0.25:
        word = dice.choice(("gives", "gives", "throws"))
        fault = dice.choice((None, None, None, dice.randrange(20, 40)))
        duration = dice.choice((0, 0, 1, 1, 2, 2, 3, 4, 5, 9))
        return job(duration, word, dice.randrange(20), dice.choice((0, 0, 1, 3, 7)), fault)
    word = dice.choice(("all", "race", "any", "pool", "timeout", "sequence", "orelse", "retry"))
    if word == "timeout":
        return (word, dice.choice((0, 1, 2, 3, 4, 7)), random_tree(dice, depth - 1))
    if word == "orelse":
        return (word, random_tree(dice, depth - 1), random_tree(dice, depth - 1))
    if word == "retry":
        return (word, dice.randrange(4), dice.choice((0, 0, 1, 2)), random_tree(dice, depth - 1))
    parts = tuple([random_tree(dice, depth - 1) for _ in range(dice.choice((1, 2, 2, 3, 3, 4, 5, 6)))])
    return ("pool", dice.randint(1, len(parts)), parts) if word == "pool" else (word, parts)


def random_plans(seed, many, depth=5):
    """So many plans, the same ones for the same seed, small and large ones."""
    dice = random.Random(seed)
    plans = []
    while len(plans) < many:
        tree = random_tree(dice, dice.randint(1, depth))
        if runs(tree) <= 60 and len(flat(tree)) <= 40:
            plans.append(flat(tree))
    return plans


def numbers_of(tree):
    """The numbers of a tree of one of the words other than job."""
    return {"pool": tree[1:2], "timeout": tree[1:2], "retry": tree[1:3]}.get(tree[0], ())


def tokens(tree):
    """The tokens of the written form of a tree, each with the words for another one in its place."""
    if tree[0] == "job":
        _, duration, word, value, cleanup, fault = tree
        sign = "+" if word == "gives" else "-"
        end = []
        if fault is not None:
            end = [(",", "expected , or )"), ("!", "expected !"), (str(fault), "expected a number")]
        return [
            ("job", "expected a plan"), ("(", "expected ("), (str(duration), "expected a number"), (",", "expected ,"),
            (sign, "expected + or -"), (str(value), "expected a number"), (",", "expected ,"),
            (str(cleanup), "expected a number"), *end, (")", "expected , or )" if fault is None else "expected )"),
        ]
    found = [(tree[0], "expected a plan"), ("(", "expected (")]
    for number in numbers_of(tree):
        found.extend([(str(number), "expected a number"), (",", "expected ,")])
    many = tree[0] in ("all", "race", "any", "sequence", "pool")
    for index, part in enumerate(branches(tree)):
        comma = [(",", "expected , or )" if many else "expected ,")] if index > 0 else []
        found.extend(comma + tokens(part))
    return found + [(")", "expected , or )" if many else "expected )")]


def lay(signs, dice):
    """A text of these tokens with blanks and newlines between them; line and column of each, and of the end."""
    text = ""
    places = []
    line, column = 1, 1
    for sign in [*signs, ""]:
        apart = dice.choice((" ", "\n", "  ", " \n\n  ", "\n ")) if text else dice.choice(("", " ", "\n"))
        for char in apart:
            line, column = (line + 1, 1) if char == "\n" else (line, column + 1)
        places.append((line, column))
        text += apart + sign
        column += len(sign)
    return text, places


def lines(trace):
    """The lines of a trace, to be compared with what stands in a test."""
    found = []
    for path, started, ended, outcome, result in trace:
        instants = ["-" if instant is None else f"{instant[0]}.{instant[1]}" for instant in (started, ended)]
        results = ",".join([str(part).removesuffix(" exceeded") for part in result]) or "-"
        found.append(" ".join([".".join(map(str, path)), *instants, outcome, results]))
    return found


def around(instants, start):
    """Instants at, around and between these, none before the start."""
    found = {start}
    for time, turn in instants:
        found.update([(time, turn), (time, turn + 1), (time, turn + 2), (time + 1, 0), (time - 1, 7), (time, turn - 1)])
    return sorted([instant for instant in found if instant >= start and instant[1] >= 0])


def contents(disk):
    """All blocks of a disk, as they are read."""
    return [disk.read(at) for at in range(disk.size())]


def torn_ones(dice):
    """Numbers of bytes that are nothing or all, for the most part."""
    return [dice.choice((0, 32, 32, dice.randrange(33))) for _ in range(dice.randrange(60))]


def replayed(grace, deeds):
    """A scheduler to which these deeds were done."""
    scheduler = Scheduler(grace)
    for word, content in deeds:
        if word == "spawn":
            scheduler.spawn(content)
        elif word == "cancel":
            scheduler.cancel(content)
        else:
            scheduler.run(content, [])
    return scheduler


def effects_of(trace):
    """The effects of a trace: of its entries that completed, those that are above no other one."""
    paths = {entry[0] for entry in trace}
    return [
        ("effect", path, result[0], ended)
        for path, _, ended, outcome, result in trace
        if outcome == "completed" and (*path, 0, 0) not in paths
    ]


def news_of(scheduler):
    """The news of a house that has synced what was done to this scheduler."""
    roots = range(scheduler.root_count())
    clock = scheduler.clock()
    told = [(root, scheduler.started(root), scheduler.plan(root), scheduler.cancelled(root), clock) for root in roots]
    effects = [effect for root in roots for effect in effects_of(scheduler.trace(root))]
    return [("root", *news) for news in told] + effects
