"""Books, which collect what jobs that completed have achieved, each once."""

from asforetold.errors import UnlikeEffects


class Book:
    """The effects that have been taken, at most one of each path."""

    def __init__(self):
        self._effects = {}

    def take(self, effect):
        """Take an effect; whether it is new."""
        path = effect[1]
        if path not in self._effects:
            self._effects[path] = effect
            return True
        if self._effects[path] != effect:
            raise UnlikeEffects("the book has another effect of this path")
        return False

    def effects(self):
        """The list of the effects, by rising paths."""
        return [self._effects[path] for path in sorted(self._effects)]
