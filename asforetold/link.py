"""The link of a house on its disk with a book and desks, by letters that may be lost, doubled and late."""

from asforetold.books import Book
from asforetold.desks import Desk
from asforetold.disks import Disk
from asforetold.errors import NoLetter, NotOpen, OutOfRange
from asforetold.house import House
from asforetold.journal import format_disk
from asforetold.scheduler import are_choices

DESKS_MOST = 3


class Link:
    """A disk, the house on it, a book, desks, and the letters that are on their way to these."""

    def __init__(self, grace, desks, blocks):
        if not 1 <= desks <= DESKS_MOST:
            raise OutOfRange("desks")
        self._disk = Disk(blocks)
        format_disk(self._disk, grace)
        self._house = House(self._disk, [])
        self._book = Book()
        self._desks = [Desk() for _ in range(desks)]
        self._letters = []

    def spawn(self, plan):
        """Make a root for a plan, and return its number."""
        return self._house.spawn(plan)

    def cancel(self, root):
        """Request the cancellation of a root; whether this has an effect."""
        return self._house.cancel(root)

    def advance(self, ticks, choices):
        """Run up to so many ticks from now, resuming ready tasks by the choices; the clock."""
        return self._house.advance(ticks, choices)

    def sync(self):
        """Make all deeds certain; how many there are."""
        return self._house.sync()

    def post(self):
        """Put letters with the news of the house at the end; how many."""
        letters = []
        for news in self._opened().news():
            if news[0] == "effect":
                letters.append(("book", news))
            else:
                letters.extend([(desk, news) for desk in range(len(self._desks))])
        self._letters.extend(letters)
        return len(letters)

    def letters(self):
        """The list of the letters, the eldest first."""
        return list(self._letters)

    def drop(self, letter):
        """Lose the letter with an index."""
        self._check_letter(letter)
        self._letters.pop(letter)

    def duplicate(self, letter):
        """Put a second letter like the one with an index at the end."""
        self._check_letter(letter)
        self._letters.append(self._letters[letter])

    def deliver(self, letter):
        """Deliver the letter with an index; whether what it tells is new."""
        self._check_letter(letter)
        receiver, news = self._letters[letter]
        if receiver == "book":
            is_new = self._book.take(news)
        else:
            is_new = self._desks[receiver].hear(news)
        self._letters.pop(letter)
        return is_new

    def effects(self):
        """The effects that the book has taken, by rising paths."""
        return self._book.effects()

    def told(self, desk, root):
        """The rows of what can come of a root by what a desk has heard of it, or None."""
        return self._desk(desk).told(root)

    def foretold(self, desk, root):
        """The prediction of a root from what a desk has heard of it, or None."""
        return self._desk(desk).foretold(root)

    def desk_clock(self, desk, root):
        """The latest clock that a desk has heard of a root, or None."""
        return self._desk(desk).clock(root)

    def desk_roots(self, desk):
        """The list of the roots of which a desk has heard, rising."""
        return self._desk(desk).roots()

    def clock(self):
        """The present instant."""
        return self._opened().clock()

    def synced_clock(self):
        """The instant after the last synced deed."""
        return self._opened().synced_clock()

    def synced_count(self):
        """How many deeds are synced."""
        return self._opened().synced_count()

    def completion(self, root):
        """How a root has ended: (ended, outcome, result); None while it is alive."""
        return self._opened().completion(root)

    def trace(self, root):
        """The entries of the tasks of a root that have ended, in the order of paths."""
        return self._opened().trace(root)

    def cancelled(self, root):
        """The instant at which the cancellation of a root was applied, or None."""
        return self._opened().cancelled(root)

    def state(self):
        """A value that is equal for two links exactly if their schedulers are in the same state."""
        return self._opened().state()

    def is_open(self):
        """Whether the power has not been cut since the house was opened."""
        return self._house.is_open()

    def cut_power(self, torn):
        """Cut the power of the disk, which tears the writes that wait."""
        self._disk.cut_power(torn)

    def schedule_cut(self, many, torn):
        """Let the power be cut by the write or flush behind so many further ones."""
        self._disk.schedule_cut(many, torn)

    def reopen(self, choices):
        """Open a new house on the disk; how many deeds it has."""
        if not are_choices(choices):
            raise OutOfRange("choices")
        self._house = House(self._disk, choices)
        return self._house.deed_count()

    def _opened(self):
        """The house, which must be open."""
        if not self._house.is_open():
            raise NotOpen("the power has been cut since the house was opened")
        return self._house

    def _desk(self, desk):
        """The desk with a number."""
        if not 0 <= desk < len(self._desks):
            raise OutOfRange("desk")
        return self._desks[desk]

    def _check_letter(self, letter):
        """Raise NoLetter unless there is a letter with this index."""
        if not 0 <= letter < len(self._letters):
            raise NoLetter("there is no letter with this index")
