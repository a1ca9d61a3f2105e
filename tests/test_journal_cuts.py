"""Points 54 and 55: whenever the power is cut, a beginning of the deeds is left, with all that were flushed."""

import random
import unittest

from asforetold.disks import Disk
from asforetold.errors import HouseFull, NotKept, NotOpen, PowerCut
from asforetold.journal import format_disk, open_journal
from tests.trees import contents, flat, job, random_plans, torn_ones

SHORT = ("advance", 5)
CANCEL = ("cancel", 3)
RACE = ("spawn", flat(("race", (job(4), job(9, "gives", 2, 3)))))
WIDE = ("spawn", flat(("all", (job(4), job(9, "gives", 2, 3), job(100, "throws", 9, 30)))))


class Keeper:
    """A journal on a disk whose power is cut, and what of its deeds must be there and what can be."""

    def __init__(self, test, size, grace):
        self.test = test
        self.disk = Disk(size)
        format_disk(self.disk, grace)
        self.grace = grace
        self.journal = open_journal(self.disk)
        # All deeds that can be found, in order, and how many of them must be.
        self.deeds = []
        self.certain = 0

    def append(self, deed):
        self.deeds = self.deeds + [deed]
        try:
            self.test.assertEqual(self.journal.append(deed), len(self.deeds))
        except HouseFull:
            self.deeds = self.deeds[:-1]
        except PowerCut:
            self.assert_closed()

    def sync(self):
        try:
            self.journal.sync()
            self.certain = len(self.deeds)
        except PowerCut:
            self.assert_closed()

    def keep(self, many):
        before = self.certain
        self.certain = min(many, self.certain)
        try:
            self.journal.keep(many)
            self.deeds = self.deeds[:many]
            self.certain = many
        except PowerCut:
            self.test.assertLessEqual(self.certain, before)
            self.assert_closed()

    def reopen(self):
        """Open the journal, as often as the opening is cut, and see that a beginning of its deeds is found."""
        found = None
        while found is None:
            try:
                found = open_journal(self.disk)
            except PowerCut:
                self.test.assertEqual(self.disk.pending_count(), 0)
                if self.test.dice.random() < 0.5:
                    self.disk.schedule_cut(self.test.dice.randrange(40), torn_ones(self.test.dice))
        deeds = found.deeds()
        self.test.assertEqual(deeds, self.deeds[:len(deeds)])
        self.test.assertGreaterEqual(len(deeds), self.certain)
        self.test.assertEqual(found.grace(), self.grace)
        self.journal, self.deeds, self.certain = found, deeds, len(deeds)

    def assert_closed(self):
        """A journal that was open ahead of a cut refuses each call."""
        before = contents(self.disk)
        self.test.assertRaises(NotOpen, self.journal.append, SHORT)
        self.test.assertRaises(NotOpen, self.journal.append, ("cancel", 99))
        self.test.assertRaises(NotOpen, self.journal.sync)
        self.test.assertRaises(NotOpen, self.journal.keep, 0)
        self.test.assertRaises(NotOpen, self.journal.keep, -1)
        self.test.assertEqual((contents(self.disk), self.disk.pending_count()), (before, 0))
        self.test.assertEqual(self.journal.grace(), self.grace)


class CutTest(unittest.TestCase):
    def setUp(self):
        self.dice = random.Random(5455)

    def cut_each(self, prepare, act, counts, patterns=12):
        """Prepare a journal and do something to it that is cut behind each number of writes and flushes."""
        cut = 0
        for many in range(counts):
            for pattern in range(patterns):
                keeper = Keeper(self, 24, 300)
                prepare(keeper)
                torn = [[], [32] * 40, [0, 32] * 20, [32, 0] * 20, [7] * 40][pattern:pattern + 1]
                keeper.disk.schedule_cut(many, torn[0] if torn else torn_ones(self.dice))
                act(keeper)
                cut += keeper.disk.cut_count()
                keeper.disk.cut_power([])
                keeper.reopen()
                keeper.append(SHORT)
                keeper.reopen()
        return cut

    def some(self, keeper):
        """Two deeds that are flushed, and two that are not."""
        for deed in (RACE, SHORT):
            keeper.append(deed)
        keeper.sync()
        for deed in (WIDE, CANCEL):
            keeper.append(deed)

    def test_append(self):
        self.assertEqual(self.cut_each(self.some, lambda keeper: keeper.append(WIDE), 5), 3 * 12)

    def test_sync(self):
        self.assertEqual(self.cut_each(self.some, lambda keeper: keeper.sync(), 3), 12)

    def test_keep(self):
        for many in range(5):
            cut = self.cut_each(self.some, lambda keeper: keeper.keep(many), 24, 6)
            self.assertGreaterEqual(cut, 6)
            if many < 4:
                self.assertGreaterEqual(cut, 12)

    def test_open(self):
        def act(keeper):
            keeper.disk.cut_power(torn_ones(self.dice))
            keeper.disk.schedule_cut(many, torn_ones(self.dice))
            keeper.reopen()

        for many in range(30):
            self.cut_each(self.some, act, 1, 6)

    def test_an_opening_clears_all_blocks_from_there_on(self):
        # With one deed of two blocks, 21 blocks are cleared, and then flushed.
        for many in range(24):
            keeper = Keeper(self, 24, 300)
            keeper.append(RACE)
            keeper.sync()
            keeper.disk.schedule_cut(many, [])
            if many <= 21:
                self.assertRaises(PowerCut, open_journal, keeper.disk)
            else:
                self.assertEqual(open_journal(keeper.disk).deeds(), [RACE])

    def test_formatting(self):
        for many in range(12):
            for torn in ([], [32], [1], [31], [32] * 8, [0] + [32] * 7):
                disk = Disk(8)
                disk.schedule_cut(many, torn)
                if many <= 8:
                    self.assertRaises(PowerCut, format_disk, disk, 300)
                else:
                    format_disk(disk, 300)
                disk.cut_power([])
                if many > 8 or (many > 0 and torn[:1] == [32]):
                    self.assertEqual((open_journal(disk).grace(), open_journal(disk).deeds()), (300, []))
                else:
                    self.assertRaises(NotKept, open_journal, disk)

    def test_what_is_torn_at_any_byte_is_no_deed(self):
        for torn in range(33):
            keeper = Keeper(self, 24, 5)
            keeper.append(SHORT)
            keeper.append(CANCEL)
            keeper.disk.cut_power([torn, 32])
            keeper.reopen()
            self.assertEqual(keeper.deeds, [SHORT, CANCEL] if torn == 32 else [])

    def test_deeds_behind_a_lost_one_are_lost(self):
        for lost in range(4):
            keeper = Keeper(self, 24, 5)
            keeper.append(SHORT)
            keeper.sync()
            for deed in (CANCEL, SHORT, RACE):
                keeper.append(deed)
            keeper.disk.cut_power([0 if place == lost else 32 for place in range(4)])
            keeper.reopen()
            self.assertEqual(keeper.deeds, [SHORT, CANCEL, SHORT][:1 + min(lost, 2)])
            keeper.append(RACE)
            keeper.sync()
            keeper.disk.cut_power([])
            keeper.reopen()
            self.assertEqual(keeper.deeds, [SHORT, CANCEL, SHORT][:1 + min(lost, 2)] + [RACE])

    def test_random_journals(self):
        for _ in range(120):
            dice = self.dice
            keeper = Keeper(self, dice.choice((8, 10, 24, 40)), dice.randrange(1001))
            plans = random_plans(dice.randrange(1000), 3, 3)
            for _ in range(40):
                if dice.random() < 0.15:
                    keeper.disk.schedule_cut(dice.randrange(12), torn_ones(dice))
                cuts = keeper.disk.cut_count()
                what = dice.choice(("append", "append", "append", "append", "sync", "keep", "reopen", "cut"))
                if what == "append":
                    numbers = [("cancel", dice.randrange(8)), ("advance", dice.randrange(1001))]
                    keeper.append(dice.choice([("spawn", dice.choice(plans)), *numbers]))
                elif what == "sync":
                    keeper.sync()
                elif what == "keep" and dice.random() < 0.5:
                    keeper.keep(dice.randint(0, len(keeper.deeds)))
                elif what == "cut":
                    keeper.disk.cut_power(torn_ones(dice))
                if what == "reopen" or keeper.disk.cut_count() > cuts:
                    keeper.reopen()


if __name__ == "__main__":
    unittest.main()
