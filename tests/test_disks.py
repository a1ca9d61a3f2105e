"""Points 49 and 50: disks, what waits on them, and what a cut of the power leaves."""

import random
import unittest

from asforetold.disks import BLOCK, BLOCKS_MOST, Disk
from asforetold.errors import OutOfRange, PowerCut
from tests.trees import contents

ZEROS = [0] * 32


def block(value):
    """A block of 32 different bytes, another one for each value."""
    return [(value + 7 * place) % 256 for place in range(32)]


class Model:
    """A disk that keeps all that was ever done to it, and finds out from this what stands on it."""

    def __init__(self, blocks):
        self.blocks = blocks
        self.done = []
        self.left = None
        self.torn = []

    def stored(self, waiting_too=False):
        blocks = {at: ZEROS for at in range(self.blocks)}
        waiting = []
        for what, *rest in self.done + ([("flush",)] if waiting_too else []):
            if what == "write":
                waiting.append(rest)
            elif what == "flush":
                for at, written in waiting:
                    blocks[at] = written
                waiting = []
            else:
                for (at, written), many in zip(waiting, rest[0] + [0] * len(waiting)):
                    blocks[at] = [written[place] if place < many else blocks[at][place] for place in range(32)]
                waiting = []
        return [blocks[at] for at in range(self.blocks)]

    def waiting(self):
        ends = [number for number, did in enumerate(self.done) if did[0] != "write"]
        return len(self.done) - (ends[-1] + 1 if ends else 0)

    def cuts(self):
        return len([did for did in self.done if did[0] == "cut"])

    def schedule(self, many, torn):
        self.left, self.torn = many, torn

    def cut(self, torn):
        self.done.append(("cut", torn))
        self.left = None

    def do(self, *what):
        """Whether the power was cut instead."""
        if self.left == 0:
            self.cut(self.torn)
            return True
        self.left = None if self.left is None else self.left - 1
        self.done.append(what)
        return False


class DiskTest(unittest.TestCase):
    def assert_out_of_range(self, name, function, *arguments):
        with self.assertRaises(OutOfRange) as caught:
            function(*arguments)
        self.assertEqual(caught.exception.name, name)

    def assert_like(self, disk, model):
        self.assertEqual(contents(disk), model.stored(waiting_too=True))
        self.assertEqual(disk.pending_count(), model.waiting())
        self.assertEqual(disk.cut_count(), model.cuts())
        self.assertEqual(disk.size(), model.blocks)

    def stored(self, disk):
        """What stands on the disk without the writes that wait; they are torn off."""
        disk.cut_power([])
        return contents(disk)


class PlainTest(DiskTest):
    def test_constants(self):
        self.assertEqual((BLOCK, BLOCKS_MOST), (32, 400))

    def test_sizes(self):
        for many in (8, 9, 13, 200, 400):
            disk = Disk(many)
            self.assertEqual(disk.size(), many)
            self.assertEqual(contents(disk), [ZEROS] * many)
            self.assertEqual((disk.pending_count(), disk.cut_count()), (0, 0))

    def test_sizes_out_of_range(self):
        for many in (7, 401, 0, -1, 1000):
            self.assert_out_of_range("blocks", Disk, many)

    def test_a_write_is_read_before_and_behind_a_flush(self):
        disk = Disk(8)
        self.assertIsNone(disk.write(7, block(1)))
        self.assertEqual(disk.pending_count(), 1)
        self.assertEqual(contents(disk), [ZEROS] * 7 + [block(1)])
        self.assertIsNone(disk.flush())
        self.assertEqual(disk.pending_count(), 0)
        self.assertEqual(contents(disk), [ZEROS] * 7 + [block(1)])

    def test_the_last_one_of_several_writes_is_read_and_stays(self):
        disk = Disk(8)
        for value in (1, 2, 3):
            disk.write(4, block(value))
            disk.write(5, block(10 + value))
        self.assertEqual(disk.pending_count(), 6)
        self.assertEqual((disk.read(4), disk.read(5)), (block(3), block(13)))
        disk.flush()
        self.assertEqual((disk.read(4), disk.read(5)), (block(3), block(13)))
        self.assertEqual(self.stored(disk)[4:6], [block(3), block(13)])

    def test_a_flush_without_writes(self):
        disk = Disk(8)
        disk.flush()
        self.assertEqual((disk.pending_count(), contents(disk)), (0, [ZEROS] * 8))

    def test_places_out_of_range(self):
        disk = Disk(9)
        for at in (-1, 9, 10, 400, -9):
            self.assert_out_of_range("at", disk.read, at)
            self.assert_out_of_range("at", disk.write, at, block(1))
            self.assert_out_of_range("at", disk.write, at, [256] * 32)
        self.assertEqual(disk.pending_count(), 0)

    def test_blocks_out_of_range(self):
        disk = Disk(8)
        for wrong in ([], [0] * 31, [0] * 33, [0] * 31 + [256], [-1] + [0] * 31, [0] * 15 + [1000] + [0] * 16):
            self.assert_out_of_range("block", disk.write, 3, wrong)
        self.assertEqual((disk.pending_count(), contents(disk)), (0, [ZEROS] * 8))
        disk.write(3, [255] * 32)
        self.assertEqual(disk.read(3), [255] * 32)

    def test_what_was_handed_in_does_not_reach_the_disk(self):
        disk = Disk(8)
        mine = block(1)
        disk.write(2, mine)
        mine[0] = 99
        mine.append(1)
        self.assertEqual(disk.read(2), block(1))
        disk.flush()
        mine[1] = 98
        self.assertEqual(disk.read(2), block(1))

    def test_what_was_returned_does_not_reach_the_disk(self):
        disk = Disk(8)
        for flushed in (False, True):
            disk.write(2, block(1))
            if flushed:
                disk.flush()
            for at in (2, 3):
                given = disk.read(at)
                kept = list(given)
                given[5] += 1
                given.pop()
                self.assertEqual(disk.read(at), kept)

    def test_a_disk_that_was_duplicated(self):
        disk = Disk(8)
        disk.write(1, block(1))
        disk.cut_power([32])
        disk.write(2, block(2))
        disk.schedule_cut(1, [3])
        other = disk.duplicate()
        for one in (other, disk):
            self.assertEqual((contents(one)[1:3], one.pending_count()), ([block(1), block(2)], 1))
            one.write(1, block(3))
            self.assertRaises(PowerCut, one.flush)
            self.assertEqual(contents(one)[1:3], [block(1), block(2)[:3] + [0] * 29])
            self.assertEqual((one.pending_count(), one.cut_count()), (0, 2))

    def test_what_is_done_to_a_disk_does_not_reach_its_duplicate(self):
        disk = Disk(8)
        disk.write(1, block(1))
        other = disk.duplicate()
        disk.write(2, block(2))
        disk.flush()
        self.assertEqual((contents(other)[1:3], other.pending_count()), ([block(1), ZEROS], 1))
        other.cut_power([4])
        self.assertEqual((contents(disk)[1:3], disk.cut_count()), ([block(1), block(2)], 0))
        self.assertEqual(other.read(1), block(1)[:4] + [0] * 28)


class CutTest(DiskTest):
    def test_a_cut_without_writes(self):
        disk = Disk(8)
        self.assertIsNone(disk.cut_power([5, 32]))
        self.assertEqual((contents(disk), disk.cut_count(), disk.pending_count()), ([ZEROS] * 8, 1, 0))

    def test_a_write_stores_its_first_bytes(self):
        for torn in range(33):
            disk = Disk(8)
            disk.write(3, block(1))
            disk.flush()
            disk.write(3, block(2))
            disk.cut_power([torn])
            self.assertEqual(disk.read(3), block(2)[:torn] + block(1)[torn:])
            self.assertEqual((disk.pending_count(), disk.cut_count()), (0, 1))

    def test_fewer_numbers_than_writes(self):
        disk = Disk(8)
        for at in (1, 2, 3):
            disk.write(at, block(at))
        disk.cut_power([32, 4])
        self.assertEqual(contents(disk)[:4], [ZEROS, block(1), block(2)[:4] + [0] * 28, ZEROS])

    def test_more_numbers_than_writes(self):
        disk = Disk(8)
        disk.write(1, block(1))
        disk.cut_power([6, 32, 32, 32, 32])
        self.assertEqual(contents(disk), [ZEROS, block(1)[:6] + [0] * 26] + [ZEROS] * 6)

    def test_writes_to_one_block_in_order(self):
        disk = Disk(8)
        for value in (1, 2, 3):
            disk.write(1, block(value))
        disk.cut_power([20, 10, 5])
        self.assertEqual(disk.read(1), block(3)[:5] + block(2)[5:10] + block(1)[10:20] + [0] * 12)
        for value in (4, 5, 6):
            disk.write(1, block(value))
        disk.cut_power([5, 10, 20])
        self.assertEqual(disk.read(1)[:20], block(6)[:20])

    def test_what_was_flushed_is_not_torn(self):
        disk = Disk(8)
        disk.write(1, block(1))
        disk.flush()
        disk.cut_power([3])
        self.assertEqual(disk.read(1), block(1))

    def test_cuts_are_counted(self):
        disk = Disk(8)
        for many in range(5):
            self.assertEqual(disk.cut_count(), many)
            disk.cut_power([])
        disk.schedule_cut(0, [])
        self.assertEqual(disk.cut_count(), 5)
        self.assertRaises(PowerCut, disk.flush)
        self.assertEqual(disk.cut_count(), 6)

    def test_numbers_of_bytes_out_of_range(self):
        disk = Disk(8)
        disk.write(1, block(1))
        for torn in ([33], [-1], [0, 32, 33], [0] * 20 + [-5]):
            self.assert_out_of_range("torn", disk.cut_power, torn)
            self.assert_out_of_range("torn", disk.schedule_cut, 0, torn)
        self.assertEqual((disk.pending_count(), disk.cut_count()), (1, 0))
        disk.flush()
        self.assertEqual(disk.read(1), block(1))

    def test_what_was_handed_in_stays(self):
        disk = Disk(8)
        torn = [1, 2, 3]
        disk.write(1, block(1))
        disk.cut_power(torn)
        self.assertEqual(torn, [1, 2, 3])


class ScheduleTest(DiskTest):
    def test_the_write_behind_the_number_is_cut(self):
        for many in range(21):
            disk = Disk(8)
            self.assertIsNone(disk.schedule_cut(many, [32, 5]))
            for number in range(many):
                disk.write(number % 7, block(number))
            self.assertEqual((disk.pending_count(), disk.cut_count()), (many, 0))
            self.assertRaises(PowerCut, disk.write, 7, block(99))
            self.assertEqual((disk.pending_count(), disk.cut_count()), (0, 1))
            kept = [block(0) if many > 0 else ZEROS, block(1)[:5] + [0] * 27 if many > 1 else ZEROS]
            self.assertEqual(contents(disk), kept + [ZEROS] * 6)
            disk.write(7, block(99))
            self.assertEqual(disk.pending_count(), 1)

    def test_the_flush_behind_the_number_is_cut(self):
        for many in range(6):
            disk = Disk(8)
            disk.write(1, block(1))
            disk.schedule_cut(2 * many, [7])
            for number in range(many):
                disk.flush()
                disk.write(1, block(2 + number))
            self.assertRaises(PowerCut, disk.flush)
            under = block(many) if many > 0 else ZEROS
            self.assertEqual(disk.read(1), block(many + 1)[:7] + under[7:])
            self.assertIsNone(disk.flush())
            self.assertEqual(disk.cut_count(), 1)

    def test_a_write_out_of_range_does_not_count(self):
        disk = Disk(8)
        disk.schedule_cut(1, [])
        self.assert_out_of_range("at", disk.write, 8, block(1))
        self.assert_out_of_range("block", disk.write, 1, [0])
        disk.write(1, block(1))
        self.assert_out_of_range("at", disk.write, -1, block(1))
        self.assert_out_of_range("block", disk.write, 1, [256] * 32)
        self.assertEqual((disk.pending_count(), disk.cut_count()), (1, 0))
        self.assertRaises(PowerCut, disk.write, 1, block(1))

    def test_reading_does_not_count(self):
        disk = Disk(8)
        disk.schedule_cut(1, [])
        contents(disk)
        disk.pending_count()
        disk.flush()
        contents(disk)
        self.assertRaises(PowerCut, disk.flush)

    def test_scheduling_anew_replaces_the_schedule(self):
        disk = Disk(8)
        disk.schedule_cut(0, [1])
        disk.schedule_cut(3, [2])
        disk.write(1, block(1))
        disk.schedule_cut(1, [3])
        disk.write(2, block(2))
        self.assertRaises(PowerCut, disk.flush)
        self.assertEqual(contents(disk)[1:3], [block(1)[:3] + [0] * 29, ZEROS])
        disk.flush()
        disk.flush()

    def test_a_cut_takes_the_schedule_away(self):
        disk = Disk(8)
        disk.schedule_cut(1, [1])
        disk.cut_power([])
        for _ in range(5):
            disk.flush()
        self.assertEqual(disk.cut_count(), 1)

    def test_a_schedule_that_is_refused_leaves_the_earlier_one(self):
        disk = Disk(8)
        disk.schedule_cut(1, [4])
        for many, torn, name in ((-1, [], "many"), (100001, [33], "many"), (0, [33], "torn"), (100000, [-1], "torn")):
            self.assert_out_of_range(name, disk.schedule_cut, many, torn)
        disk.write(1, block(1))
        self.assertRaises(PowerCut, disk.write, 1, block(2))
        self.assertEqual(disk.read(1), block(1)[:4] + [0] * 28)

    def test_a_cut_that_is_refused_leaves_the_schedule(self):
        disk = Disk(8)
        disk.schedule_cut(0, [4])
        self.assert_out_of_range("torn", disk.cut_power, [33])
        self.assertRaises(PowerCut, disk.flush)

    def test_the_bounds_of_the_number(self):
        disk = Disk(8)
        disk.schedule_cut(100000, [32])
        for _ in range(100000):
            disk.flush()
        self.assertRaises(PowerCut, disk.flush)
        disk.schedule_cut(0, [])
        self.assertRaises(PowerCut, disk.flush)

    def test_what_was_handed_in_does_not_reach_the_schedule(self):
        disk = Disk(8)
        torn = [4]
        disk.schedule_cut(1, torn)
        torn[0] = 30
        torn.append(5)
        disk.write(1, block(1))
        self.assertRaises(PowerCut, disk.flush)
        self.assertEqual(disk.read(1), block(1)[:4] + [0] * 28)

    def test_random_disks(self):
        dice = random.Random(49)
        for _ in range(150):
            size = dice.choice((8, 9, 10, 11, 12, 13))
            disk, model = Disk(size), Model(size)
            for _ in range(60):
                torn = [dice.choice((0, 32, dice.randrange(33))) for _ in range(dice.randrange(8))]
                what = dice.choice(("write", "write", "write", "write", "flush", "cut", "schedule"))
                if what == "write":
                    written = (dice.randrange(size), block(dice.randrange(256)))
                    self.assert_cut(model.do("write", *written), disk.write, *written)
                elif what == "flush":
                    self.assert_cut(model.do("flush"), disk.flush)
                elif what == "cut" and dice.random() < 0.5:
                    model.cut(torn)
                    disk.cut_power(torn)
                elif what == "schedule":
                    many = dice.randrange(12)
                    model.schedule(many, torn)
                    disk.schedule_cut(many, torn)
                self.assert_like(disk, model)

    def assert_cut(self, cut, function, *arguments):
        if cut:
            self.assertRaises(PowerCut, function, *arguments)
        else:
            self.assertIsNone(function(*arguments))

    def test_a_disk_of_the_greatest_size(self):
        disk, model = Disk(400), Model(400)
        for at in range(400):
            model.do("write", at, block(at % 256))
            disk.write(at, block(at % 256))
        torn = [at % 33 for at in range(300)]
        self.assertEqual(disk.pending_count(), 400)
        model.cut(torn)
        disk.cut_power(torn)
        self.assert_like(disk, model)


if __name__ == "__main__":
    unittest.main()
