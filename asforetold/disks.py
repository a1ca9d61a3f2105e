"""A disk of blocks, on which writes wait for a flush and whose power can be cut."""

from asforetold.errors import OutOfRange, PowerCut

BLOCK = 32
BLOCKS_MOST = 400
BLOCKS_LEAST = 8
BYTE_MOST = 255

# So many further writes and flushes can go before a scheduled cut.
CUT_MOST = 100000


class Disk:
    """Blocks of bytes, the writes that wait for a flush, and perhaps a cut that is scheduled."""

    def __init__(self, blocks):
        if not BLOCKS_LEAST <= blocks <= BLOCKS_MOST:
            raise OutOfRange("blocks")
        self._stored = [[0] * BLOCK for _ in range(blocks)]
        self._waiting = []
        self._cuts = 0
        # How many writes and flushes still succeed, and what the cut then tears; None without a schedule.
        self._cut_after = None
        self._torn = []

    def duplicate(self):
        """A new disk in the same state."""
        other = Disk(len(self._stored))
        # Blocks are replaced and never changed, so that both disks can have the same ones.
        other._stored = list(self._stored)
        other._waiting = list(self._waiting)
        other._cuts = self._cuts
        other._cut_after = self._cut_after
        other._torn = self._torn
        return other

    def size(self):
        """How many blocks the disk has."""
        return len(self._stored)

    def read(self, at):
        """What the waiting writes would leave in a block."""
        self._check_place(at)
        block = self._stored[at]
        for place, written in self._waiting:
            if place == at:
                block = written
        return list(block)

    def write(self, at, block):
        """Let a block wait to be written to a place."""
        self._check_place(at)
        if len(block) != BLOCK or not all([0 <= byte <= BYTE_MOST for byte in block]):
            raise OutOfRange("block")
        self._meet_cut()
        self._waiting.append((at, list(block)))

    def flush(self):
        """Perform all waiting writes, in order."""
        self._meet_cut()
        for at, block in self._waiting:
            self._stored[at] = block
        self._waiting = []

    def pending_count(self):
        """How many writes wait."""
        return len(self._waiting)

    def cut_count(self):
        """How often the power was cut."""
        return self._cuts

    def cut_power(self, torn):
        """Cut the power: waiting write number i stores only its first torn[i] bytes."""
        check_torn(torn)
        for number, (at, block) in enumerate(self._waiting):
            kept = torn[number] if number < len(torn) else 0
            self._stored[at] = block[:kept] + self._stored[at][kept:]
        self._waiting = []
        self._cuts += 1
        self._cut_after = None

    def schedule_cut(self, many, torn):
        """Let the power be cut by the write or flush behind so many further ones."""
        if not 0 <= many <= CUT_MOST:
            raise OutOfRange("many")
        check_torn(torn)
        self._cut_after = many
        self._torn = list(torn)

    def _check_place(self, at):
        """Raise OutOfRange "at" unless there is a block with this index."""
        if not 0 <= at < len(self._stored):
            raise OutOfRange("at")

    def _meet_cut(self):
        """Count a write or flush, or raise PowerCut if it is the one by which the power is cut."""
        if self._cut_after is None:
            return
        if self._cut_after == 0:
            self.cut_power(self._torn)
            raise PowerCut("the power was cut as scheduled")
        self._cut_after -= 1


def check_torn(torn):
    """Raise OutOfRange "torn" unless all these numbers of bytes are within a block."""
    if not all([0 <= many <= BLOCK for many in torn]):
        raise OutOfRange("torn")
