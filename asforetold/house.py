"""The house, which keeps the deeds of a scheduler in a journal and does them anew when it is opened."""

from asforetold.errors import GraceTooShort, NoRoot, NotOpen, OutOfRange, PowerCut, TooManyRoots
from asforetold.journal import open_journal
from asforetold.scheduler import Scheduler, are_choices


def refuse_choices(disk):
    """Raise what opening a disk raises, or else OutOfRange "choices"; only a cut of the power changes the disk."""
    try:
        open_journal(disk.duplicate())
    except PowerCut:
        open_journal(disk)
    raise OutOfRange("choices")


class House:
    """A scheduler, the journal of its deeds, and what is certain by those of them that are synced."""

    def __init__(self, disk, choices):
        if not are_choices(choices):
            refuse_choices(disk)
        self._journal = open_journal(disk)
        self._scheduler = Scheduler(self._journal.grace())
        self._redo(choices)
        self._note_synced()

    def spawn(self, plan):
        """Make a root for a plan, and return its number."""
        self._check_open()
        self._scheduler.check_spawn(plan)
        self._journal.append(("spawn", plan))
        return self._scheduler.spawn(plan)

    def cancel(self, root):
        """Request the cancellation of a root; whether this has an effect."""
        self._check_open()
        if not self._scheduler.can_cancel(root):
            return False
        self._journal.append(("cancel", root))
        return self._scheduler.cancel(root)

    def advance(self, ticks, choices):
        """Run up to so many ticks from now, resuming ready tasks by the choices; the clock."""
        self._check_open()
        self._scheduler.check_run(ticks, choices)
        self._journal.append(("advance", ticks))
        return self._scheduler.run(ticks, choices)

    def sync(self):
        """Make all deeds certain; how many there are."""
        self._journal.sync()
        self._note_synced()
        return self._synced_count

    def is_open(self):
        """Whether the power has not been cut since the house was opened."""
        return self._journal.is_open()

    def clock(self):
        """The present instant."""
        return self._scheduler.clock()

    def synced_clock(self):
        """The instant after the last synced deed."""
        return self._synced_clock

    def deed_count(self):
        """How many deeds there are."""
        return len(self._journal.deeds())

    def synced_count(self):
        """How many deeds are synced."""
        return self._synced_count

    def root_count(self):
        """How many roots have been spawned."""
        return self._scheduler.root_count()

    def free_blocks(self):
        """How many blocks of the disk are left for further deeds."""
        return self._journal.free_blocks()

    def plan(self, root):
        """The plan of a root."""
        return self._scheduler.plan(root)

    def started(self, root):
        """The instant at which a root was spawned."""
        return self._scheduler.started(root)

    def cancelled(self, root):
        """The instant at which the cancellation of a root was applied, or None."""
        return self._scheduler.cancelled(root)

    def completion(self, root):
        """How a root has ended: (ended, outcome, result); None while it is alive."""
        return self._scheduler.completion(root)

    def trace(self, root):
        """The entries of the tasks of a root that have ended, in the order of paths."""
        return self._scheduler.trace(root)

    def state(self):
        """A value that is equal for two houses exactly if their schedulers are in the same state."""
        return self._scheduler.state()

    def news(self):
        """The list of what is certain by the synced deeds: of each root, and of each job that completed."""
        return list(self._news)

    def _check_open(self):
        """Raise NotOpen if the power has been cut since the house was opened."""
        if not self.is_open():
            raise NotOpen("the power has been cut since the house was opened")

    def _redo(self, choices):
        """Do the deeds of the journal, and clear them from the first one on that does nothing."""
        deeds = self._journal.deeds()
        for number, deed in enumerate(deeds):
            if not self._has_done(deed, choices):
                self._journal.keep(number)
                return

    def _has_done(self, deed, choices):
        """Do a deed of the journal; whether it was not refused, and had an effect."""
        word, content = deed
        try:
            if word == "cancel":
                return self._scheduler.cancel(content)
            if word == "spawn":
                self._scheduler.spawn(content)
            else:
                self._scheduler.run(content, choices)
        except (GraceTooShort, TooManyRoots, NoRoot):
            return False
        return True

    def _note_synced(self):
        """Take what is so now for what is certain."""
        scheduler = self._scheduler
        self._synced_count = self.deed_count()
        self._synced_clock = scheduler.clock()
        self._news = []
        for root in range(scheduler.root_count()):
            told = (scheduler.started(root), scheduler.plan(root), scheduler.cancelled(root))
            self._news.append(("root", root, *told, self._synced_clock))
        for effect in scheduler.effects():
            self._news.append(("effect", *effect))
