"""The journal: the deeds that a disk keeps, a beginning of which is left after any cut of the power."""

from asforetold.blocks import decode_head, decode_piece, encode_head, encode_record
from asforetold.deeds import check_deed, read_deed, write_deed
from asforetold.disks import BLOCK
from asforetold.errors import HouseFull, NotKept, NotOpen, OutOfRange
from asforetold.scheduler import GRACE_MOST

DEEDS_MOST = 200

# The block behind the head, in which the first record begins.
RECORDS_AT = 1


def format_disk(disk, grace):
    """Make an empty journal with a grace on a disk."""
    if not 0 <= grace <= GRACE_MOST:
        raise OutOfRange("grace")
    disk.write(0, encode_head(grace))
    clear_blocks(disk, RECORDS_AT, disk.size())
    disk.flush()


def open_journal(disk):
    """The journal on a disk: its deeds up to the first record that is none or not the next one."""
    grace = decode_head(disk.read(0))
    if grace is None:
        raise NotKept("the disk has no head of a journal")
    deeds = []
    places = [RECORDS_AT]
    found = read_record(disk, RECORDS_AT, 0)
    while found is not None and len(deeds) < DEEDS_MOST:
        deed, end = found
        deeds.append(deed)
        places.append(end)
        found = read_record(disk, end, len(deeds))
    clear_blocks(disk, places[-1], disk.size())
    disk.flush()
    return Journal(disk, grace, deeds, places)


def read_record(disk, start, number):
    """The deed of the record with a number that begins at a block, and the block behind it; None if there is none."""
    pieces = read_pieces(disk, start, number)
    deed = read_deed("".join(pieces))
    if deed is None:
        return None
    return (deed, start + len(pieces))


def read_pieces(disk, start, number):
    """The texts of the pieces of the record with a number that begins at a block; none if it is not all there."""
    texts = []
    many = 1
    while len(texts) < many:
        at = start + len(texts)
        piece = decode_piece(disk.read(at)) if at < disk.size() else None
        if piece is None:
            return []
        # The first piece tells how many there are, and the others must agree with it.
        if len(texts) == 0:
            many = piece[1]
        if piece[:3] != (len(texts), many, number):
            return []
        texts.append(piece[3])
    return texts


def clear_blocks(disk, start, end):
    """Write zeros to the blocks from one index up to another one."""
    for at in range(start, end):
        disk.write(at, [0] * BLOCK)


class Journal:
    """The deeds that are kept on a disk, and the blocks in which they stand."""

    def __init__(self, disk, grace, deeds, places):
        self._disk = disk
        self._grace = grace
        self._deeds = list(deeds)
        # In which block each record begins, and at the end in which one the next record would.
        self._places = list(places)
        self._cuts = disk.cut_count()

    def is_open(self):
        """Whether the power has not been cut since the journal was opened."""
        return self._disk.cut_count() == self._cuts

    def grace(self):
        """The grace that the head of the disk tells."""
        return self._grace

    def deeds(self):
        """The list of the deeds."""
        return list(self._deeds)

    def append(self, deed):
        """Write a deed behind the others, without a flush; how many deeds there are then."""
        self._check_open()
        check_deed(deed)
        record = encode_record(len(self._deeds), write_deed(deed))
        if len(self._deeds) >= DEEDS_MOST or len(record) > self.free_blocks():
            raise HouseFull("there is no place for another deed")
        start = self._places[-1]
        for index, block in enumerate(record):
            self._disk.write(start + index, block)
        self._deeds.append(deed)
        self._places.append(start + len(record))
        return len(self._deeds)

    def sync(self):
        """Flush what was appended."""
        self._check_open()
        self._disk.flush()

    def keep(self, many):
        """Clear all deeds but the first so many from the disk, and flush."""
        self._check_open()
        if not 0 <= many <= len(self._deeds):
            raise OutOfRange("many")
        clear_blocks(self._disk, self._places[many], self._places[-1])
        self._disk.flush()
        self._deeds = self._deeds[:many]
        self._places = self._places[:many + 1]

    def free_blocks(self):
        """How many blocks are left for further records."""
        return self._disk.size() - self._places[-1]

    def _check_open(self):
        """Raise NotOpen if the power has been cut since the journal was opened."""
        if not self.is_open():
            raise NotOpen("the power has been cut since the journal was opened")
