"""What a task does: it is called with an answer at the step that it has reached, and carries out a node.

The step of a job is 1 while it takes its time, 2 while it cleans up, and 3 behind its end; that of another node is
the number of the scopes and sleeps that it has wanted.
"""


def resume_node(node, step, answer):
    """The result of calling a task for a node at a step with an answer, and the step behind the call."""
    word = node[0]
    if word == "job":
        return resume_job(node, step, answer)
    if step == 0:
        return (first_scope(node), 1)
    if word == "sequence" and answer[0] == "next" and step < len(node[1]):
        return (single(node[1][step]), step + 1)
    if word == "orelse" and answer[0] == "throw" and step == 1:
        return (single(node[2]), 2)
    if word == "retry":
        return resume_retry(node, step, answer)
    if word in ("all", "pool") and answer[0] == "next":
        return (("done", joined(answer[1])), step)
    return (passed_on(answer), step)


def resume_job(node, step, answer):
    """What resume_node returns for a job."""
    _, duration, word, value, cleanup, fault = node
    if step == 0:
        return (("sleep", duration), 1)
    if step == 1 and answer[0] == "return":
        return (("sleep", cleanup), 2)
    if step == 1:
        return (own_end(word, value, answer), 3)
    if fault is None:
        return (("done", None), 3)
    return (("throws", (fault,)), 3)


def own_end(word, value, answer):
    """The end of a job that has taken its time."""
    if answer[0] == "throw":
        return ("throws", answer[1])
    if word == "gives":
        return ("done", (value,))
    return ("throws", (value,))


def resume_retry(node, step, answer):
    """What resume_node returns for a retry behind its first scope."""
    _, retries, delay, part = node
    runs = (step + 1) // 2
    if step % 2 == 1 and answer[0] == "throw" and runs <= retries:
        return (("sleep", delay), step + 1)
    if step % 2 == 0 and answer[0] == "next":
        return (single(part), step + 1)
    return (passed_on(answer), step)


def first_scope(node):
    """The scope that a node opens first."""
    word = node[0]
    if word == "pool":
        return ("scope", ("pool", node[1]), None, node[2])
    if word == "timeout":
        return ("scope", "single", node[1], (node[2],))
    if word == "sequence":
        return single(node[1][0])
    if word == "orelse":
        return single(node[1])
    if word == "retry":
        return single(node[3])
    return ("scope", word, None, node[1])


def single(part):
    """The scope of one part without a deadline."""
    return ("scope", "single", None, (part,))


def joined(values):
    """The concatenation of a tuple of values; None if there is none."""
    if values is None:
        return None
    return tuple([number for value in values for number in value])


def passed_on(answer):
    """The end of a task that makes nothing else of its answer."""
    if answer[0] == "throw":
        return ("throws", answer[1])
    if answer[0] == "return":
        return ("done", None)
    return ("done", answer[1])
