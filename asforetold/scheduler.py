"""The scheduler, which runs plans beside one another."""

from asforetold.coroutines import resume_node
from asforetold.errors import GraceTooShort, NoRoot, NotReady, NotSettled, OutOfRange, TasksReady, TooManyRoots
from asforetold.instants import next_instant
from asforetold.paths import child_path, is_below
from asforetold.plans import check_plan, longest_cleanup
from asforetold.tasks import Scope, Task, scope_answer

ROOTS_MOST = 8
GRACE_MOST = 1000
TICKS_MOST = 1000
CHOICES_MOST = 50


def are_choices(choices):
    """Whether these can be the choices of a run."""
    return len(choices) <= CHOICES_MOST and all([choice >= 0 for choice in choices])


class Root:
    """A plan that was spawned, when it was so, and what is known of its cancellation."""

    def __init__(self, plan, started):
        self.plan = plan
        self.started = started
        self.requested = False
        self.applied = None


class Scheduler:
    """Plans that run beside one another, whichever of the tasks that are ready is resumed first."""

    def __init__(self, grace):
        if not 0 <= grace <= GRACE_MOST:
            raise OutOfRange("grace")
        self._grace = grace
        self._clock = (0, 0)
        self._roots = []
        # All tasks by their paths, those of them that are alive, and the scopes that have not ended.
        self._tasks = {}
        self._alive = {}
        self._scopes = {}

    def spawn(self, plan):
        """Make a root task for a plan, and return its number."""
        self.check_spawn(plan)
        root = len(self._roots)
        self._roots.append(Root(plan, self._clock))
        self._add_task((root,), len(plan) - 1)
        return root

    def cancel(self, root):
        """Request the cancellation of a root; whether this has an effect."""
        if not self.can_cancel(root):
            return False
        self._roots[root].requested = True
        return True

    def check_spawn(self, plan):
        """Raise what refuses to spawn a plan, if anything does."""
        check_plan(plan)
        if longest_cleanup(plan) > self._grace:
            raise GraceTooShort("a job of the plan cleans up for longer than the grace")
        if len(self._roots) >= ROOTS_MOST:
            raise TooManyRoots("there is no place for another root")

    def can_cancel(self, root):
        """Whether to request the cancellation of a root would have an effect."""
        known = self._root(root)
        return not known.requested and self._tasks[(root,)].is_alive()

    def check_run(self, ticks, choices):
        """Raise what refuses to run so many ticks with these choices, if anything does."""
        if not 0 <= ticks <= TICKS_MOST:
            raise OutOfRange("ticks")
        if not are_choices(choices):
            raise OutOfRange("choices")

    def clock(self):
        """The present instant."""
        return self._clock

    def grace(self):
        """The longest cleanup that a plan may have."""
        return self._grace

    def root_count(self):
        """How many roots have been spawned."""
        return len(self._roots)

    def ready(self):
        """The paths of the tasks that are ready to be resumed, rising."""
        return sorted([path for path, task in self._alive.items() if self._is_ready(task)])

    def resume(self, number):
        """Resume the task with this index in ready, and return its state afterwards."""
        paths = self.ready()
        if not 0 <= number < len(paths):
            raise NotReady("no task with this number is ready")
        return self._call(self._tasks[paths[number]])

    def settle(self):
        """Make a settling step; whether it changed something."""
        if len(self.ready()) > 0:
            raise TasksReady("tasks are ready to be resumed")
        return self._settle()

    def next_event(self):
        """The next time at which a task wakes or a deadline is reached, or None."""
        times = [task.wake for task in self._alive.values() if task.wake is not None]
        for scope in self._scopes.values():
            if scope.closed is None and scope.deadline is not None:
                times.append(scope.deadline)
        return min([time for time in times if time > self._clock[0]], default=None)

    def advance(self, ticks):
        """Advance the clock by so many ticks, but not beyond the next event; the new time."""
        if not 0 <= ticks <= TICKS_MOST:
            raise OutOfRange("ticks")
        if len(self.ready()) > 0:
            raise TasksReady("tasks are ready to be resumed")
        if self._is_unsettled():
            raise NotSettled("a settling step would change something")
        time = self._clock[0] + ticks
        event = self.next_event()
        if event is not None and event < time:
            time = event
        self._advance_to(time)
        return time

    def run(self, ticks, choices):
        """Run up to so many ticks from now, resuming ready tasks by the choices; the clock."""
        self.check_run(ticks, choices)
        until = self._clock[0] + ticks
        resumed = 0
        running = True
        while running:
            paths = self.ready()
            if len(paths) > 0:
                choice = choices[resumed % len(choices)] if len(choices) > 0 else 0
                self._call(self._tasks[paths[choice % len(paths)]])
                resumed += 1
            elif not self._settle():
                running = self._advance_within(until)
        return self._clock

    def plan(self, root):
        """The plan of a root."""
        return self._root(root).plan

    def started(self, root):
        """The instant at which a root was spawned."""
        return self._root(root).started

    def cancelled(self, root):
        """The instant at which the cancellation of a root was applied, or None."""
        return self._root(root).applied

    def completion(self, root):
        """How a root has ended: (ended, outcome, result); None while it is alive."""
        self._root(root)
        task = self._tasks[(root,)]
        if task.is_alive():
            return None
        return (task.ended, task.outcome, task.result)

    def trace(self, root):
        """The entries of the tasks of a root that have ended, in the order of paths."""
        self._root(root)
        entries = []
        for path in sorted([path for path in self._tasks if path[0] == root]):
            task = self._tasks[path]
            if not task.is_alive():
                entries.append((path, task.started, task.ended, task.outcome, task.result))
        return tuple(entries)

    def effects(self):
        """What the jobs that completed have achieved: (path, value, ended), in the order of paths."""
        effects = []
        for path in sorted(self._tasks):
            task = self._tasks[path]
            if task.outcome == "completed" and self._node(task)[0] == "job":
                effects.append((path, task.result[0], task.ended))
        return effects

    def task(self, path):
        """The state of a task, its mark and whether its cancellation was delivered; None if there is none."""
        if path not in self._tasks:
            return None
        task = self._tasks[path]
        return (task.state, task.mark, task.delivered)

    def scopes(self):
        """The scopes that have not ended: (path, mode, deadline, closed), by rising paths."""
        scopes = [self._scopes[path] for path in sorted(self._scopes)]
        return [(scope.path, scope.mode, scope.deadline, scope.closed) for scope in scopes]

    def state(self):
        """A value that is equal for two schedulers exactly if they are in the same state."""
        roots = tuple([self._root_state(number) for number in range(len(self._roots))])
        tasks = tuple([self._tasks[path].fields() for path in sorted(self._tasks)])
        scopes = tuple([self._scopes[path].fields() for path in sorted(self._scopes)])
        return (self._grace, self._clock, roots, tasks, scopes)

    def _root_state(self, number):
        root = self._roots[number]
        return (root.plan, root.started, root.applied, self._is_pending(number))

    def _root(self, number):
        """The root with a number."""
        if not 0 <= number < len(self._roots):
            raise NoRoot("there is no root with this number")
        return self._roots[number]

    def _is_pending(self, number):
        """Whether the next settling step applies the cancellation of a root."""
        root = self._roots[number]
        return root.requested and root.applied is None and self._tasks[(number,)].is_alive()

    def _add_task(self, path, place):
        """Make a task, which is not started yet."""
        task = Task(path, place)
        self._tasks[path] = task
        self._alive[path] = task

    def _node(self, task):
        """The node that a task carries out."""
        return self._roots[task.path[0]].plan[task.place]

    def _parts(self, scope):
        """The tasks of a scope, in order."""
        return [self._tasks[scope.path + (part,)] for part in range(scope.parts)]

    def _is_ready(self, task):
        """Whether a task is ready to be resumed."""
        if task.state != "created":
            return task.state == "ready"
        if len(task.path) == 1:
            return True
        scope = self._scopes[task.path[:-1]]
        if not isinstance(scope.mode, tuple):
            return True
        completed = [part for part in self._parts(scope) if part.outcome == "completed"]
        return task.path[-1] < scope.mode[1] + len(completed)

    def _call(self, task):
        """Resume a task, and return its state afterwards."""
        if task.state == "created":
            task.started = self._clock
        result, task.step = resume_node(self._node(task), task.step, task.take_answer())
        if result[0] == "throws":
            self._end_task(task, self._clock, "failed", result[1])
        elif result[0] == "done" and task.mark is None:
            self._end_task(task, self._clock, "completed", result[1])
        elif result[0] == "done":
            self._end_task(task, self._clock, "cancelled", ())
        elif task.mark is not None and not task.delivered:
            task.be_ready(("next", None))
        elif result[0] == "sleep" and result[1] == 0:
            task.be_ready(("next", None))
        elif result[0] == "sleep":
            task.sleep(self._clock[0] + result[1])
        else:
            self._add_scope(task, result[1], result[2], result[3])
        return task.state

    def _add_scope(self, owner, mode, ticks, parts):
        """Make the next scope of a task, which then waits for it."""
        path = owner.path + (owner.scopes,)
        deadline = None if ticks is None else self._clock[0] + ticks
        self._scopes[path] = Scope(path, mode, deadline, len(parts))
        for part, place in enumerate(parts):
            self._add_task(child_path(owner.path, owner.scopes, part), place)
        owner.wait()

    def _end_task(self, task, instant, outcome, result):
        """End a task, and its scope with it if the task is the last part."""
        task.end(instant, outcome, result)
        del self._alive[task.path]
        if len(task.path) > 1:
            self._end_scope(task.path[:-1])

    def _end_scope(self, path):
        """End a scope if all its parts have ended."""
        scope = self._scopes[path]
        parts = self._parts(scope)
        if not any([part.is_alive() for part in parts]):
            del self._scopes[path]
            self._tasks[path[:-1]].be_ready(scope_answer(scope, parts))

    def _is_unsettled(self):
        """Whether a settling step would change something."""
        applied = self._roots_to_cancel()
        return len(applied) + len(self._scopes_to_close(applied)) > 0

    def _settle(self):
        """Make a settling step while no task is ready; whether it changed something."""
        applied = self._roots_to_cancel()
        closed = self._scopes_to_close(applied)
        if len(applied) + len(closed) == 0:
            return False
        marked = self._tasks_to_mark(applied, closed)
        for path in applied:
            self._roots[path[0]].applied = self._clock
        for scope in closed:
            scope.timed_out = self._is_late(scope)
            scope.closed = self._clock
        for task in marked:
            task.mark = self._clock
        self._clock = next_instant(self._clock)
        for task in marked:
            # What was never started ends in the next round, in which the others are resumed.
            if task.state == "created":
                self._end_task(task, self._clock, "cancelled", ())
            elif task.state == "sleeping":
                task.be_ready(("next", None))
        return True

    def _roots_to_cancel(self):
        """The paths of the roots whose cancellation is to be applied."""
        return [(number,) for number in range(len(self._roots)) if self._is_pending(number)]

    def _scopes_to_close(self, applied):
        """The scopes to be closed, where the cancellation of these roots is applied."""
        closed = []
        above = list(applied)
        # By rising paths, a scope comes behind those that are above it.
        for path in sorted(self._scopes):
            scope = self._scopes[path]
            if scope.closed is None and (self._is_decided(scope) or is_below(path, above)):
                closed.append(scope)
                above.append(path)
        return closed

    def _tasks_to_mark(self, applied, closed):
        """The tasks that get a mark, where these roots are cancelled and these scopes closed."""
        above = applied + [scope.path for scope in closed]
        return [
            task for path, task in self._alive.items()
            if task.mark is None and (path in applied or is_below(path, above))
        ]

    def _is_late(self, scope):
        """Whether the deadline of a scope is reached."""
        return scope.deadline is not None and scope.deadline <= self._clock[0]

    def _is_decided(self, scope):
        """Whether a scope that is not closed is to be closed by its deadline or by its parts."""
        if self._is_late(scope):
            return True
        if scope.mode == "single":
            return False
        outcomes = [part.outcome for part in self._parts(scope)]
        if scope.mode == "race":
            return any([outcome is not None for outcome in outcomes])
        return ("completed" if scope.mode == "any" else "failed") in outcomes

    def _advance_within(self, until):
        """Advance the clock to the next event up to a time, or else to that time; whether there was such an event."""
        event = self.next_event()
        if event is not None and event <= until:
            self._advance_to(event)
            return True
        self._advance_to(until)
        return False

    def _advance_to(self, time):
        """Advance the clock to a time, if it is a later one."""
        if time == self._clock[0]:
            return
        self._clock = (time, 0)
        for task in self._alive.values():
            if task.wake is not None and task.wake <= time:
                task.be_ready(("next", None))
