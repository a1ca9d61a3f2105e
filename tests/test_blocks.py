"""Points 51, 53 and 54: records and heads, byte by byte, and what rows of bytes tell that are nearly such."""

import random
import unittest

from asforetold.blocks import PIECE, PIECES_MOST, decode_head, decode_piece, encode_head, encode_record
from asforetold.errors import OutOfRange

# The codes that the characters of a text have.
CODES = [10] + [code for code in range(32, 127) if code != 37]


def letters(many, dice=None):
    """A text of so many characters, of each code if there are enough."""
    if dice is not None:
        return "".join(chr(dice.choice(CODES)) for _ in range(many))
    return "".join(chr(CODES[place % len(CODES)]) for place in range(many))


def told(block):
    """What a block tells as a piece, asked as point 51 asks it."""
    length = block[5]
    if block[0] != 74 or block[31] != 74 or block[1] >= block[2] or length > 24:
        return None
    if [code for code in block[6:6 + length] if code not in CODES]:
        return None
    if [byte for byte in block[6 + length:31] if byte != 0]:
        return None
    return (block[1], block[2], block[3] * 256 + block[4], "".join(chr(code) for code in block[6:6 + length]))


def grace_told(block):
    """What a block tells as a head, asked as points 53 and 54 ask it."""
    grace = block[1] * 256 + block[2]
    if block[0] != 72 or block[31] != 72 or block[3:31] != [0] * 28 or grace > 1000:
        return None
    return grace


def changes(block, dice, many):
    """Rows that are the block but for one byte, at each place, and so many that are it but for two."""
    values = (0, 1, 2, 10, 24, 25, 31, 32, 36, 37, 38, 72, 73, 74, 75, 126, 127, 255)
    rows = []
    for place in range(32):
        for value in (*values, block[place] + 1, block[place] - 1):
            if 0 <= value <= 255:
                rows.append(block[:place] + [value] + block[place + 1:])
    for _ in range(many):
        row = list(block)
        for place in dice.sample(range(32), 2):
            row[place] = dice.choice((*values, dice.randrange(256)))
        rows.append(row)
    return rows


class RecordTest(unittest.TestCase):
    def assert_out_of_range(self, number, text):
        with self.assertRaises(OutOfRange) as caught:
            encode_record(number, text)
        self.assertEqual(caught.exception.name, "text")

    def test_constants(self):
        self.assertEqual((PIECE, PIECES_MOST), (24, 255))

    def test_a_record_of_one_piece(self):
        self.assertEqual(
            encode_record(3, "cancel 5"),
            [[74, 0, 1, 0, 3, 8, 99, 97, 110, 99, 101, 108, 32, 53] + [0] * 17 + [74]],
        )

    def test_a_record_of_two_pieces(self):
        self.assertEqual(
            encode_record(65534, "ABCDEFGHIJKLMNOPQRSTUVWXYZ"),
            [
                [74, 0, 2, 255, 254, 24] + list(range(65, 89)) + [0, 74],
                [74, 1, 2, 255, 254, 2, 89, 90] + [0] * 23 + [74],
            ],
        )

    def test_the_empty_text(self):
        self.assertEqual(encode_record(256, ""), [[74, 0, 1, 1, 0, 0] + [0] * 25 + [74]])

    def test_numbers(self):
        for number in (0, 1, 199, 200, 255, 256, 257, 511, 512, 40000, 65535):
            (block,) = encode_record(number, "x")
            self.assertEqual(block, [74, 0, 1, number // 256, number - 256 * (number // 256), 1, 120] + [0] * 24 + [74])
            self.assertEqual(decode_piece(block), (0, 1, number, "x"))

    def test_texts_of_every_length(self):
        for length in [*range(0, 122), 240, 241, 2399, 2400, 2401, 6095, 6096, 6097, 6119, 6120]:
            text = letters(length)
            record = encode_record(7, text)
            many = max(1, -(-length // 24))
            self.assertEqual(len(record), many)
            for index, block in enumerate(record):
                part = text[24 * index:24 * index + 24]
                codes = [ord(char) for char in part]
                rest = [0] * (24 - len(codes))
                self.assertEqual(block, [74, index, many, 0, 7, len(part), *codes, *rest, 0, 74])
                self.assertEqual(decode_piece(block), (index, many, 7, part))

    def test_multiples_have_no_empty_piece(self):
        for many in (1, 2, 3, 100, 255):
            record = encode_record(0, letters(24 * many))
            self.assertEqual((len(record), record[-1][:6]), (many, [74, many - 1, many, 0, 0, 24]))

    def test_texts_that_are_too_long(self):
        for length in (6121, 6122, 6144, 10000, 100000):
            self.assert_out_of_range(0, letters(length))

    def test_records_are_new(self):
        record = encode_record(1, "cancel 5")
        record[0][0] = 0
        record.pop()
        self.assertEqual(encode_record(1, "cancel 5")[0][0], 74)


class PieceTest(unittest.TestCase):
    def assert_told(self, row):
        kept = list(row)
        self.assertEqual(decode_piece(row), told(kept), kept)
        self.assertEqual(row, kept)

    def test_every_code(self):
        for code in range(256):
            row = [74, 0, 1, 0, 0, 3, 97, code, 98] + [0] * 22 + [74]
            text = f"a{chr(code)}b" if code in CODES else None
            self.assertEqual(decode_piece(row), None if text is None else (0, 1, 0, text), code)

    def test_the_marks(self):
        (block,) = encode_record(5, "advance 10")
        for mark in (0, 72, 73, 75, 255):
            self.assertIsNone(decode_piece([mark] + block[1:]))
            self.assertIsNone(decode_piece(block[:31] + [mark]))

    def test_the_index_is_less_than_the_number_of_pieces(self):
        for index, many in ((0, 0), (1, 0), (1, 1), (2, 1), (255, 255), (200, 100)):
            self.assertIsNone(decode_piece([74, index, many, 0, 0, 1, 65] + [0] * 24 + [74]))
        for index, many in ((0, 1), (0, 255), (254, 255), (1, 2)):
            row = [74, index, many, 2, 3, 1, 65] + [0] * 24 + [74]
            self.assertEqual(decode_piece(row), (index, many, 515, "A"))

    def test_the_number_of_characters(self):
        for length in range(256):
            row = [74, 0, 1, 0, 0, length] + [65] * 25 + [74]
            self.assertIsNone(decode_piece(row), length)
            row[30] = 0
            self.assertEqual(decode_piece(row), (0, 1, 0, "A" * 24) if length == 24 else None)

    def test_what_stands_behind_the_characters(self):
        for length in range(25):
            block = [74, 0, 1, 0, 0, length] + [65] * length + [0] * (25 - length) + [74]
            self.assertEqual(decode_piece(block), (0, 1, 0, "A" * length))
            for place in range(6 + length, 31):
                for byte in (1, 65, 74, 255):
                    self.assertIsNone(decode_piece(block[:place] + [byte] + block[place + 1:]))

    def test_pieces_that_are_shorter_than_they_could_be(self):
        row = [74, 0, 3, 0, 0, 2, 65, 66] + [0] * 23 + [74]
        self.assertEqual(decode_piece(row), (0, 3, 0, "AB"))

    def test_rows_that_are_pieces_but_for_one_or_two_bytes(self):
        dice = random.Random(51)
        for number, length in ((0, 0), (3, 1), (65535, 11), (256, 23), (1, 24), (74, 25), (9, 40), (500, 71), (2, 100)):
            for block in encode_record(number, letters(length, dice)):
                for row in changes(block, dice, 150):
                    self.assert_told(row)

    def test_torn_pieces(self):
        dice = random.Random(54)
        for number, length in ((0, 0), (1, 10), (300, 24), (65535, 60)):
            for block in encode_record(number, letters(length, dice)):
                for torn in range(33):
                    self.assert_told(block[:torn] + [0] * (32 - torn))
                    self.assert_told([0] * torn + block[torn:])
                    whole = decode_piece(block)
                    self.assertEqual(decode_piece(block[:torn] + [0] * (32 - torn)), whole if torn == 32 else None)
                    self.assertEqual(decode_piece([0] * torn + block[torn:]), whole if torn == 0 else None)

    def test_other_rows(self):
        dice = random.Random(32)
        for row in ([0] * 32, [74] * 32, [72] * 32, [255] * 32, encode_head(100)):
            self.assert_told(row)
            self.assertIsNone(decode_piece(row))
        for _ in range(300):
            self.assert_told([74] + [dice.randrange(256) for _ in range(30)] + [74])
            self.assert_told([74, 0, 1, 9, 9, dice.randrange(3)] + [dice.choice((0, 0, 65)) for _ in range(25)] + [74])


class HeadTest(unittest.TestCase):
    def assert_told(self, row):
        kept = list(row)
        self.assertEqual(decode_head(row), grace_told(kept), kept)
        self.assertEqual(row, kept)

    def test_heads_byte_by_byte(self):
        self.assertEqual(encode_head(0), [72] + [0] * 30 + [72])
        self.assertEqual(encode_head(255), [72, 0, 255] + [0] * 28 + [72])
        self.assertEqual(encode_head(256), [72, 1, 0] + [0] * 28 + [72])
        self.assertEqual(encode_head(1000), [72, 3, 232] + [0] * 28 + [72])

    def test_heads_and_back(self):
        for grace in range(1001):
            self.assertEqual(encode_head(grace), [72, grace // 256, grace - 256 * (grace // 256)] + [0] * 28 + [72])
            self.assertEqual(decode_head(encode_head(grace)), grace)

    def test_graces_out_of_bounds(self):
        for high, low in ((3, 233), (3, 255), (4, 0), (255, 255)):
            self.assertIsNone(decode_head([72, high, low] + [0] * 28 + [72]))

    def test_rows_that_are_heads_but_for_one_or_two_bytes(self):
        dice = random.Random(53)
        for grace in (0, 1, 72, 255, 256, 511, 768, 999, 1000):
            for row in changes(encode_head(grace), dice, 400):
                self.assert_told(row)

    def test_torn_heads(self):
        for grace in (0, 5, 1000):
            head = encode_head(grace)
            for torn in range(33):
                self.assert_told(head[:torn] + [0] * (32 - torn))
                self.assertEqual(decode_head(head[:torn] + [0] * (32 - torn)), grace if torn == 32 else None)
                self.assertEqual(decode_head([0] * torn + head[torn:]), grace if torn == 0 else None)

    def test_other_rows(self):
        for row in ([0] * 32, [74] * 32, [72] * 32, encode_record(0, "cancel 1")[0]):
            self.assert_told(row)
            self.assertIsNone(decode_head(row))


if __name__ == "__main__":
    unittest.main()
