"""Points 53 to 55: journals on disks, what they take, and what of them is found when they are opened."""

import random
import unittest

from asforetold.blocks import encode_head, encode_record
from asforetold.deeds import write_deed
from asforetold.disks import Disk
from asforetold.errors import HouseFull, NotKept, NotOpen, OutOfRange
from asforetold.journal import DEEDS_MOST, format_disk, open_journal
from tests.trees import contents, flat, job, jobs, one_of_each_word, random_plans

ZEROS = [0] * 32

# Deeds whose records have one, one, one, two and three pieces.
SHORT = ("advance", 5)
CANCEL = ("cancel", 3)
JOB = ("spawn", flat(job(4)))
RACE = ("spawn", flat(("race", (job(4), job(9, "gives", 2, 3)))))
WIDE = ("spawn", flat(("all", (job(4), job(9, "gives", 2, 3), job(100, "throws", 9, 30)))))
DEEDS = [SHORT, RACE, CANCEL, WIDE, JOB, SHORT]


def pieces(deed):
    """How many blocks a deed needs."""
    return -(-len(write_deed(deed)) // 24)


def disk_of(blocks, size=40):
    """A disk with a head and these blocks behind it, all flushed."""
    disk = Disk(size)
    for at, block in enumerate([encode_head(300), *blocks]):
        disk.write(at, block)
    disk.flush()
    return disk


def records(deeds):
    """The blocks of these deeds, one behind another."""
    return [block for number, deed in enumerate(deeds) for block in encode_record(number, write_deed(deed))]


def random_deeds(dice, many):
    """So many deeds, some of which need several blocks."""
    plans = random_plans(dice.randrange(1000), 5, 3)
    numbers = [("cancel", dice.randrange(8)), ("advance", dice.randrange(1001))]
    return [dice.choice([("spawn", dice.choice(plans)), *numbers]) for _ in range(many)]


class JournalTest(unittest.TestCase):
    def assert_out_of_range(self, name, function, *arguments):
        with self.assertRaises(OutOfRange) as caught:
            function(*arguments)
        self.assertEqual(caught.exception.name, name)

    def assert_opened(self, disk, deeds, rest_from):
        """Opening finds these deeds, leaves the blocks up to the one with this index, and clears the others."""
        before = contents(disk)
        for _ in range(2):
            journal = open_journal(disk)
            self.assertEqual(journal.deeds(), deeds)
            self.assertEqual(journal.free_blocks(), disk.size() - rest_from)
            self.assertEqual(disk.pending_count(), 0)
            disk.cut_power([])
            self.assertEqual(contents(disk), before[:rest_from] + [ZEROS] * (disk.size() - rest_from))


class FormatTest(JournalTest):
    def test_head_and_zeros(self):
        for size, grace in ((8, 0), (9, 1), (13, 256), (400, 1000)):
            disk = Disk(size)
            for at in range(size):
                disk.write(at, [at % 256] * 32)
            self.assertIsNone(format_disk(disk, grace))
            self.assertEqual(disk.pending_count(), 0)
            disk.cut_power([])
            self.assertEqual(contents(disk), [encode_head(grace)] + [ZEROS] * (size - 1))

    def test_graces_out_of_range(self):
        disk = disk_of(records(DEEDS))
        disk.schedule_cut(0, [])
        before = contents(disk)
        for grace in (-1, 1001, 5000):
            self.assert_out_of_range("grace", format_disk, disk, grace)
        self.assertEqual((contents(disk), disk.pending_count(), disk.cut_count()), (before, 0, 0))

    def test_a_disk_that_was_formatted_is_empty(self):
        disk = Disk(20)
        format_disk(disk, 77)
        journal = open_journal(disk)
        self.assertEqual((journal.grace(), journal.deeds(), journal.free_blocks()), (77, [], 19))

    def test_formatting_again_forgets_the_deeds(self):
        disk = disk_of(records(DEEDS))
        format_disk(disk, 5)
        self.assertEqual((open_journal(disk).deeds(), open_journal(disk).grace()), ([], 5))


class HeadTest(JournalTest):
    def test_disks_without_a_head(self):
        head = encode_head(300)
        wrong = [ZEROS, [74, *head[1:]], [*head[:31], 74], head[:5] + [1] + head[6:], [72, 3, 233] + [0] * 28 + [72]]
        for block in wrong + records(DEEDS)[:1]:
            disk = disk_of(records(DEEDS))
            disk.write(0, block)
            disk.schedule_cut(0, [])
            before = contents(disk)
            self.assertRaises(NotKept, open_journal, disk)
            self.assertEqual((contents(disk), disk.pending_count(), disk.cut_count()), (before, 1, 0))

    def test_a_new_disk(self):
        self.assertRaises(NotKept, open_journal, Disk(8))

    def test_graces(self):
        for grace in (0, 1, 255, 256, 1000):
            disk = Disk(8)
            disk.write(0, encode_head(grace))
            self.assertEqual(open_journal(disk).grace(), grace)


class OpenTest(JournalTest):
    def test_records_that_follow_one_another(self):
        for many in range(len(DEEDS) + 1):
            end = 1 + sum(map(pieces, DEEDS[:many]))
            self.assert_opened(disk_of(records(DEEDS[:many])), DEEDS[:many], end)

    def test_other_bytes_behind_them(self):
        for behind in ([1] * 32, [74] * 32, encode_record(9, "cancel 1")[0], encode_head(5), ZEROS):
            disk = disk_of(records(DEEDS) + [behind, ZEROS, behind, [9] * 32])
            self.assert_opened(disk, DEEDS, 1 + sum(map(pieces, DEEDS)))

    def test_records_with_another_number(self):
        for number in (0, 1, 3, 4, 258, 65535):
            blocks = records(DEEDS[:2]) + encode_record(number, "cancel 3") + encode_record(3, "advance 5")
            self.assert_opened(disk_of(blocks), DEEDS[:2], 4)

    def test_texts_that_are_no_deeds(self):
        for text in ("", "cancel 8", "advance 1001", "advance 05", "sync", "spawn job(4, +1,0)", "cancel 3 ", "x" * 70):
            blocks = records(DEEDS[:2]) + encode_record(2, text) + encode_record(3, "advance 5")
            self.assert_opened(disk_of(blocks), DEEDS[:2], 4)

    def test_a_piece_that_is_missing(self):
        wide = encode_record(1, write_deed(WIDE))
        rest = encode_record(2, "cancel 1")
        for gone in range(3):
            for instead in ([], [ZEROS], [[3] * 32], encode_head(3)[:0], encode_record(1, "cancel 1")):
                blocks = encode_record(0, "advance 5") + wide[:gone] + instead + wide[gone + 1:] + rest
                deeds = [SHORT]
                end = 2
                if gone == 0 and instead == encode_record(1, "cancel 1"):
                    deeds, end = [SHORT, ("cancel", 1)], 3
                self.assert_opened(disk_of(blocks), deeds, end)

    def test_pieces_that_are_exchanged(self):
        blocks = records([SHORT, WIDE, CANCEL])
        for one, two in ((2, 3), (3, 4), (2, 4)):
            changed = list(blocks)
            changed[one - 1], changed[two - 1] = blocks[two - 1], blocks[one - 1]
            self.assert_opened(disk_of(changed), [SHORT], 2)

    def test_pieces_of_different_records(self):
        # The third piece of another deed, and of a record with another number.
        other = write_deed(WIDE).replace("100", "101")
        for piece in (encode_record(2, write_deed(WIDE))[2], encode_record(0, write_deed(WIDE))[2]):
            self.assert_opened(disk_of(records([SHORT, WIDE])[:3] + [piece]), [SHORT], 2)
        blocks = records([SHORT, WIDE])[:2] + encode_record(1, other)[1:]
        mixed = ("spawn", WIDE[1][:2] + (job(101, "throws", 9, 30),) + WIDE[1][3:])
        self.assert_opened(disk_of(blocks), [SHORT, mixed], 5)

    def test_another_count_of_pieces(self):
        blocks = records([SHORT, WIDE, CANCEL])
        for which in ((2,), (3,), (4,), (2, 3, 4)):
            for many in (1, 2, 4, 255):
                changed = [list(block) for block in blocks]
                for at in which:
                    changed[at - 1][2] = many
                self.assert_opened(disk_of(changed), [SHORT], 2)

    def test_a_record_that_goes_beyond_the_disk(self):
        short = records([SHORT] * 6)
        self.assert_opened(disk_of(short + records([SHORT] * 6 + [RACE])[6:7], 8), [SHORT] * 6, 7)
        self.assert_opened(disk_of(records([SHORT] * 5 + [RACE]), 8), [SHORT] * 5 + [RACE], 8)
        self.assert_opened(disk_of(records([SHORT] * 7), 8), [SHORT] * 7, 8)

    def test_two_hundred_deeds_and_more(self):
        for many in (199, 200, 201, 202, 250):
            self.assert_opened(disk_of(records([SHORT] * many), 300), [SHORT] * min(many, 200), 1 + min(many, 200))

    def test_writes_that_wait_are_flushed(self):
        disk = Disk(20)
        for at, block in enumerate([encode_head(3), *records(DEEDS[:3]), [5] * 32]):
            disk.write(at, block)
        self.assertEqual(open_journal(disk).deeds(), DEEDS[:3])
        disk.cut_power([])
        self.assertEqual(contents(disk), [encode_head(3), *records(DEEDS[:3])] + [ZEROS] * 15)

    def test_changed_bytes(self):
        dice = random.Random(54)
        blocks = records(DEEDS)
        starts = [1 + sum(map(pieces, DEEDS[:many])) for many in range(len(DEEDS) + 1)]
        for _ in range(200):
            at, place = dice.randrange(len(blocks)), dice.randrange(32)
            row = list(blocks[at])
            row[place] = dice.choice([byte for byte in (0, 1, 2, 74, 255, 37, 200) if byte != row[place]])
            whole = [many for many in range(len(DEEDS) + 1) if starts[many] <= at + 1]
            disk = disk_of(blocks[:at] + [row] + blocks[at + 1:])
            self.assert_opened(disk, DEEDS[:whole[-1]], starts[whole[-1]])


class AppendTest(JournalTest):
    def empty(self, size=40, grace=300):
        disk = Disk(size)
        format_disk(disk, grace)
        return disk, open_journal(disk)

    def test_constants(self):
        self.assertEqual(DEEDS_MOST, 200)

    def test_appended_deeds(self):
        disk, journal = self.empty()
        for many, deed in enumerate(DEEDS):
            self.assertEqual(journal.append(deed), many + 1)
            self.assertEqual(journal.deeds(), DEEDS[:many + 1])
            self.assertEqual(journal.free_blocks(), 39 - sum(map(pieces, DEEDS[:many + 1])))
        self.assertEqual(contents(disk), [encode_head(300), *records(DEEDS)] + [ZEROS] * (39 - len(records(DEEDS))))
        self.assertEqual(journal.grace(), 300)

    def test_appending_does_not_flush(self):
        disk, journal = self.empty()
        for many in range(len(DEEDS)):
            journal.append(DEEDS[many])
            self.assertEqual(disk.pending_count(), sum(map(pieces, DEEDS[:many + 1])))
        disk.cut_power([])
        self.assertEqual(contents(disk), [encode_head(300)] + [ZEROS] * 39)

    def test_sync(self):
        disk, journal = self.empty()
        journal.append(RACE)
        journal.append(SHORT)
        self.assertIsNone(journal.sync())
        self.assertEqual(disk.pending_count(), 0)
        journal.append(CANCEL)
        disk.cut_power([])
        self.assertEqual(contents(disk)[:5], [encode_head(300), *records([RACE, SHORT]), ZEROS])
        self.assertEqual(open_journal(disk).deeds(), [RACE, SHORT])

    def test_deeds_out_of_range(self):
        disk, journal = self.empty(8)
        for filled in range(2):
            wrong = {("spawn", jobs(2)): "plan", ("spawn", ()): "plan", ("cancel", 8): "root", ("cancel", -1): "root",
                     ("advance", 1001): "ticks", ("advance", -1): "ticks"}
            for deed, name in wrong.items():
                self.assert_out_of_range(name, journal.append, deed)
            self.assertEqual(len(journal.deeds()), 7 * filled)
            for _ in range(7 - 7 * filled):
                journal.append(SHORT)
        self.assertEqual(disk.pending_count(), 7)

    def test_no_room(self):
        disk, journal = self.empty(8)
        large = ("spawn", flat(one_of_each_word()))
        self.assertGreater(pieces(large), 7)
        self.assertRaises(HouseFull, journal.append, large)
        for _ in range(5):
            journal.append(SHORT)
        self.assertRaises(HouseFull, journal.append, WIDE)
        self.assertEqual((journal.deeds(), journal.free_blocks(), disk.pending_count()), ([SHORT] * 5, 2, 5))
        self.assertEqual(journal.append(RACE), 6)
        self.assertEqual(journal.free_blocks(), 0)
        for deed in (SHORT, RACE, WIDE):
            self.assertRaises(HouseFull, journal.append, deed)
        journal.sync()
        self.assert_opened(disk, [SHORT] * 5 + [RACE], 8)

    def test_two_hundred_deeds_and_one_more(self):
        disk, journal = self.empty(400)
        for many in range(200):
            self.assertEqual(journal.append(("advance", many)), many + 1)
        for deed in (SHORT, RACE):
            self.assertRaises(HouseFull, journal.append, deed)
        self.assert_out_of_range("ticks", journal.append, ("advance", 1001))
        self.assertEqual((len(journal.deeds()), journal.free_blocks()), (200, 199))
        journal = open_journal(disk)
        self.assertRaises(HouseFull, journal.append, SHORT)
        journal.keep(199)
        self.assertEqual(journal.append(RACE), 200)
        self.assertRaises(HouseFull, journal.append, SHORT)

    def test_lists_that_are_handed_out_are_new(self):
        _, journal = self.empty()
        journal.append(SHORT)
        journal.deeds().append(RACE)
        journal.deeds().clear()
        self.assertEqual(journal.deeds(), [SHORT])
        self.assertEqual(journal.append(RACE), 2)

    def test_opening_anew_leads_to_all(self):
        dice = random.Random(55)
        for _ in range(30):
            disk, journal = self.empty(dice.choice((40, 100, 400)))
            deeds = []
            for deed in random_deeds(dice, 40):
                if pieces(deed) <= journal.free_blocks():
                    deeds.append(deed)
                    self.assertEqual(journal.append(deed), len(deeds))
                else:
                    self.assertRaises(HouseFull, journal.append, deed)
                if dice.random() < 0.1:
                    journal.sync()
                if dice.random() < 0.1:
                    journal = open_journal(disk)
                self.assertEqual((journal.deeds(), open_journal(disk).deeds()), (deeds, deeds))
                self.assertEqual(journal.free_blocks(), disk.size() - 1 - sum(map(pieces, deeds)))


class KeepTest(JournalTest):
    def test_just_the_first_deeds_are_kept(self):
        for many in range(len(DEEDS) + 1):
            for opened in (False, True):
                disk = disk_of(records(DEEDS) if opened else [])
                journal = open_journal(disk)
                for deed in DEEDS if not opened else []:
                    journal.append(deed)
                self.assertIsNone(journal.keep(many))
                self.assertEqual(disk.pending_count(), 0)
                self.assertEqual(journal.deeds(), DEEDS[:many])
                self.assertEqual(journal.free_blocks(), 39 - sum(map(pieces, DEEDS[:many])))
                self.assert_opened(disk, DEEDS[:many], 1 + sum(map(pieces, DEEDS[:many])))
                left = [encode_head(300), *records(DEEDS[:many])]
                self.assertEqual(contents(disk), left + [ZEROS] * (40 - len(left)))

    def test_deeds_go_on_behind_those_that_are_kept(self):
        disk = disk_of(records(DEEDS))
        journal = open_journal(disk)
        journal.keep(2)
        self.assertEqual(journal.append(JOB), 3)
        self.assertEqual(journal.append(WIDE), 4)
        journal.sync()
        self.assert_opened(disk, [*DEEDS[:2], JOB, WIDE], 8)

    def test_numbers_out_of_range(self):
        disk = disk_of(records(DEEDS[:2]))
        journal = open_journal(disk)
        journal.append(CANCEL)
        for many in (-1, 4, 5, 200, 201):
            self.assert_out_of_range("many", journal.keep, many)
        self.assertEqual((journal.deeds(), disk.pending_count()), (DEEDS[:3], 1))
        journal.keep(3)
        self.assertEqual((journal.deeds(), disk.pending_count()), (DEEDS[:3], 0))


class ClosedTest(JournalTest):
    def test_a_cut_closes_the_journal(self):
        disk = disk_of(records(DEEDS))
        journal = open_journal(disk)
        disk.cut_power([])
        for _ in range(2):
            for deed in (SHORT, ("cancel", 8), ("spawn", ())):
                self.assertRaises(NotOpen, journal.append, deed)
            self.assertRaises(NotOpen, journal.sync)
            for many in (0, 6, 7, -1):
                self.assertRaises(NotOpen, journal.keep, many)
            self.assertEqual((journal.grace(), journal.deeds()), (300, DEEDS))
            self.assertEqual((contents(disk)[1:10], disk.pending_count()), (records(DEEDS), 0))
            self.assertEqual(open_journal(disk).deeds(), DEEDS)

    def test_a_full_journal_is_closed_first(self):
        disk = disk_of(records([SHORT] * 7), 8)
        journal = open_journal(disk)
        self.assertRaises(HouseFull, journal.append, SHORT)
        disk.cut_power([])
        self.assertRaises(NotOpen, journal.append, SHORT)

    def test_cuts_before_the_opening_do_not_count(self):
        disk = disk_of(records(DEEDS))
        disk.cut_power([])
        disk.cut_power([])
        journal = open_journal(disk)
        self.assertEqual(journal.append(SHORT), 7)
        journal.sync()
        journal.keep(0)


if __name__ == "__main__":
    unittest.main()
