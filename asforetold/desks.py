"""Desks, which hear news of roots and foretell what can come of them."""

from asforetold.errors import UnlikeNews
from asforetold.foretelling import predict
from asforetold.outlooks import outlook


class Heard:
    """What a desk has heard of a root."""

    def __init__(self, start, plan):
        self.start = start
        self.plan = plan
        # The instant at which its cancellation was applied.
        self.applied = None
        # The latest clock of all that was heard, and of what told of no cancellation.
        self.latest = None
        self.uncancelled = None

    def is_unlike(self, start, plan, cancelled, clock):
        """Whether other news contradict this."""
        if (start, plan) != (self.start, self.plan):
            return True
        if cancelled is None:
            return self.applied is not None and self.applied < clock
        if self.applied is not None and self.applied != cancelled:
            return True
        return self.uncancelled is not None and cancelled < self.uncancelled

    def is_new(self, cancelled, clock):
        """Whether other news tell more than this."""
        if self.latest is None or self.latest < clock:
            return True
        return self.applied is None and cancelled is not None

    def note(self, cancelled, clock):
        """Add what other news tell."""
        if self.latest is None or self.latest < clock:
            self.latest = clock
        if cancelled is not None:
            self.applied = cancelled
        elif self.uncancelled is None or self.uncancelled < clock:
            self.uncancelled = clock


class Desk:
    """What has been heard of roots, and what is foretold from it."""

    def __init__(self):
        self._heard = {}

    def hear(self, news):
        """Hear news of a root; whether they are new."""
        _, root, start, plan, cancelled, clock = news
        heard = self._heard.get(root, None)
        if heard is None:
            heard = Heard(start, plan)
            self._heard[root] = heard
        if heard.is_unlike(start, plan, cancelled, clock):
            raise UnlikeNews("the news contradict what was heard of this root")
        is_new = heard.is_new(cancelled, clock)
        heard.note(cancelled, clock)
        return is_new

    def roots(self):
        """The list of the roots of which the desk has heard, rising."""
        return sorted(self._heard)

    def clock(self, root):
        """The latest clock that the desk has heard of a root, or None."""
        if root not in self._heard:
            return None
        return self._heard[root].latest

    def foretold(self, root):
        """The prediction of a root from what the desk has heard of it, or None."""
        if root not in self._heard:
            return None
        heard = self._heard[root]
        return predict(heard.plan, (root,), heard.start, heard.applied)

    def told(self, root):
        """The rows of what can come of a root by what the desk has heard of it, or None."""
        if root not in self._heard:
            return None
        heard = self._heard[root]
        if heard.applied is None:
            return outlook(heard.plan, heard.start, max(heard.latest, heard.start))
        _, outcome, result, _ = self.foretold(root)
        return [(heard.applied, outcome, result)]
