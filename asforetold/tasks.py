"""Tasks, and the scopes in which they are."""


class Task:
    """A task, which carries out the node with the index place of the plan of its root."""

    def __init__(self, path, place, state="created", ended=None, outcome=None, result=None, mark=None):
        self.path = path
        self.place = place
        self.state = state
        self.ended = ended
        self.outcome = outcome
        self.result = result
        self.mark = mark
        self.step = 0
        self.answer = ("next", None)
        self.wake = None
        self.scopes = 0
        self.started = None
        self.delivered = False

    def duplicate(self):
        """A new task with the same fields."""
        other = Task(self.path, self.place, self.state, self.ended, self.outcome, self.result, self.mark)
        other.step = self.step
        other.answer = self.answer
        other.wake = self.wake
        other.scopes = self.scopes
        other.started = self.started
        other.delivered = self.delivered
        return other

    def is_alive(self):
        """Whether the task has not ended."""
        return self.ended is None

    def be_ready(self, answer):
        """Become ready, to be resumed with an answer."""
        self.state = "ready"
        self.answer = answer
        self.wake = None

    def sleep(self, wake):
        """Sleep until a time."""
        self.state = "sleeping"
        self.wake = wake

    def wait(self):
        """Wait for the scope that the task opens now."""
        self.state = "joining"
        self.scopes += 1

    def end(self, instant, outcome, result):
        """End at an instant."""
        self.state = "finished"
        self.ended = instant
        self.outcome = outcome
        self.result = result

    def take_answer(self):
        """The answer with which the task is called now: once, its cancellation in place of a next."""
        answer = self.answer
        self.answer = ("next", None)
        if answer[0] == "next" and self.mark is not None and not self.delivered:
            self.delivered = True
            return ("return",)
        return answer

    def fields(self):
        """All fields of the task, as a value."""
        course = (self.state, self.step, self.answer, self.wake, self.scopes, self.mark, self.delivered)
        return (self.path, self.place, self.started, self.ended, self.outcome, self.result, course)


class Scope:
    """A scope with so many parts, of a mode, perhaps with a deadline."""

    def __init__(self, path, mode, deadline, parts, closed=None, timed_out=False):
        self.path = path
        self.mode = mode
        self.deadline = deadline
        self.parts = parts
        self.closed = closed
        self.timed_out = timed_out

    def duplicate(self):
        """A new scope with the same fields."""
        return Scope(self.path, self.mode, self.deadline, self.parts, self.closed, self.timed_out)

    def fields(self):
        """All fields of the scope, as a value."""
        return (self.path, self.mode, self.deadline, self.parts, self.closed, self.timed_out)


def scope_answer(scope, tasks):
    """The answer that the owner of a scope gets when all its tasks have ended."""
    errors = scope_errors(scope, tasks)
    if len(errors) > 0:
        return ("throw", errors)
    completed = [task for task in tasks if task.outcome == "completed"]
    if scope.mode == "all" or isinstance(scope.mode, tuple):
        values = tuple([task.result for task in completed])
        return ("next", values if len(completed) == len(tasks) else None)
    if len(completed) == 0:
        return ("next", None)
    return ("next", min(completed, key=lambda task: task.ended).result)


def scope_errors(scope, tasks):
    """The tuple of the errors of a scope whose tasks have all ended."""
    failed = [task for task in tasks if task.outcome == "failed"]
    # An any that was decided by a part that completed takes no notice of those that failed before.
    if scope.mode == "any" and "completed" in [task.outcome for task in tasks]:
        failed = [task for task in failed if task.mark is not None]
    errors = tuple([error for task in failed for error in task.result])
    return ("deadline exceeded", *errors) if scope.timed_out else errors
