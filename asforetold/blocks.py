"""What stands in the blocks of a disk: the pieces of records of texts, and the head of a journal."""

from asforetold.disks import BLOCK
from asforetold.errors import OutOfRange
from asforetold.scheduler import GRACE_MOST

PIECE = 24
PIECES_MOST = 255

PIECE_MARK = 74
HEAD_MARK = 72

# In a piece, its characters stand behind so many bytes.
TEXT_AT = 6

# All characters that a text can have.
CHARACTERS = (
    "\n !\"#$&'()*+,-./0123456789:;<=>?@"
    "ABCDEFGHIJKLMNOPQRSTUVWXYZ[\\]^_`abcdefghijklmnopqrstuvwxyz{|}~"
)


def encode_record(number, text):
    """The list of the blocks of the record with a number and a text."""
    many = max(1, (len(text) + PIECE - 1) // PIECE)
    if many > PIECES_MOST:
        raise OutOfRange("text")
    pieces = [text[PIECE * index:PIECE * (index + 1)] for index in range(many)]
    return [encode_piece(index, many, number, piece) for index, piece in enumerate(pieces)]


def encode_piece(index, many, number, text):
    """The block of a piece, of so many ones of the record with a number."""
    start = [PIECE_MARK, index, many, number // 256, number % 256, len(text)]
    codes = [ord(char) for char in text]
    zeros = [0] * (BLOCK - TEXT_AT - len(text) - 1)
    return start + codes + zeros + [PIECE_MARK]


def decode_piece(block):
    """What a block tells as a piece: (index, many, number, text); None if it is none."""
    _, index, many, high, low, length = block[:TEXT_AT]
    if not has_marks(block, PIECE_MARK) or index >= many or length > PIECE:
        return None
    known = {ord(char): char for char in CHARACTERS}
    end = TEXT_AT + length
    codes = block[TEXT_AT:end]
    if not all([code in known for code in codes]) or not are_zeros(block[end:-1]):
        return None
    return (index, many, 256 * high + low, "".join([known[code] for code in codes]))


def encode_head(grace):
    """The block of the head of a journal with a grace."""
    return [HEAD_MARK, grace // 256, grace % 256] + [0] * (BLOCK - 4) + [HEAD_MARK]


def decode_head(block):
    """The grace that a block tells as a head; None if it is none."""
    grace = 256 * block[1] + block[2]
    if not has_marks(block, HEAD_MARK) or not are_zeros(block[3:-1]) or grace > GRACE_MOST:
        return None
    return grace


def has_marks(block, mark):
    """Whether the first and the last byte of a block are this one."""
    return block[0] == mark and block[-1] == mark


def are_zeros(numbers):
    """Whether all these bytes are 0."""
    return all([number == 0 for number in numbers])
