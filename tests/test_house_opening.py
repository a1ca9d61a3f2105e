"""Points 56 to 58 and 62: what houses do when they are opened, and what cuts of the power leave of them."""

import random
import unittest

from asforetold.blocks import encode_head
from asforetold.disks import Disk
from asforetold.errors import NotKept, NotOpen, OutOfRange, PowerCut
from asforetold.foretelling import predict
from asforetold.house import House
from asforetold.journal import format_disk, open_journal
from tests.trees import contents, flat, job, news_of, random_plans, replayed, torn_ones

ZEROS = [0] * 32
RACE = flat(("race", (job(4), job(9, "gives", 2, 3))))
QUICK = flat(job(0, "gives", 8))
SPAWN = ("spawn", RACE)


def disk_with(deeds, size=80, grace=50):
    """A disk to whose journal these deeds were appended, whether a scheduler would do them or not."""
    disk = Disk(size)
    format_disk(disk, grace)
    journal = open_journal(disk)
    for deed in deeds:
        journal.append(deed)
    journal.sync()
    return disk


class OpeningTest(unittest.TestCase):
    def assert_opened(self, house, grace, deeds):
        """A house that was just opened has done these deeds, and all of them are synced."""
        scheduler = replayed(grace, deeds)
        self.assertEqual(house.state(), scheduler.state())
        self.assertEqual((house.clock(), house.synced_clock()), (scheduler.clock(), scheduler.clock()))
        self.assertEqual((house.deed_count(), house.synced_count()), (len(deeds), len(deeds)))
        self.assertEqual(house.root_count(), scheduler.root_count())
        self.assertEqual(house.news(), news_of(scheduler))

    def assert_ends(self, deeds, first, grace=50):
        """Of these deeds, a house does so many first ones; what follows is cleared from the disk and flushed."""
        disk = disk_with(deeds, grace=grace)
        kept = open_journal(disk_with(deeds[:first], grace=grace)).free_blocks()
        before = contents(disk)
        house = House(disk, [1])
        self.assert_opened(house, grace, deeds[:first])
        self.assertEqual((disk.pending_count(), house.free_blocks()), (0, kept))
        disk.cut_power([])
        self.assertEqual(contents(disk), before[:80 - kept] + [ZEROS] * kept)
        self.assertEqual(open_journal(disk).deeds(), deeds[:first])
        house = House(disk, [])
        self.assert_opened(house, grace, deeds[:first])
        house.advance(3, [])
        house.sync()
        self.assert_opened(House(disk, []), grace, [*deeds[:first], ("advance", 3)])

    def test_deeds_are_done_anew(self):
        deeds = [SPAWN, ("advance", 4), ("spawn", QUICK), ("cancel", 0), ("advance", 10), SPAWN, ("cancel", 2)]
        for many in range(len(deeds) + 1):
            self.assert_ends(deeds[:many], many)

    def test_deeds_that_the_scheduler_refuses(self):
        rough = ("spawn", flat(job(1, "gives", 1, 51)))
        for many in range(3):
            start = [SPAWN, ("advance", 1)][:many]
            self.assert_ends([*start, rough, SPAWN, ("advance", 5)], many)
            self.assert_ends([*start, ("cancel", 1), ("advance", 5)], many)
            self.assert_ends([*start, ("cancel", 7)], many)
        self.assert_ends([rough], 0)
        self.assert_ends([rough], 1, 51)
        self.assert_ends([("cancel", 0), SPAWN], 0)

    def test_a_ninth_root(self):
        self.assert_ends([SPAWN] * 8 + [("advance", 2), SPAWN, ("advance", 2)], 9)

    def test_cancellations_without_effect(self):
        self.assert_ends([SPAWN, ("cancel", 0), ("cancel", 0), ("advance", 3)], 2)
        self.assert_ends([SPAWN, ("cancel", 0), ("advance", 0), ("cancel", 0), ("advance", 3)], 3)
        self.assert_ends([("spawn", QUICK), ("advance", 0), ("cancel", 0), SPAWN], 2)
        self.assert_ends([SPAWN, ("advance", 30), ("cancel", 0)], 2)
        self.assert_ends([SPAWN, ("advance", 6), ("cancel", 0)], 3)

    def test_what_a_house_appended_is_done_with_all_choices(self):
        dice = random.Random(56)
        for _ in range(30):
            disk = disk_with([], 200, 100)
            house = House(disk, [])
            deeds = random_deeds(dice, house, 25)
            for choices in ([], [1], [5, 2, 9, 0], [dice.randrange(100) for _ in range(50)], [10 ** 9]):
                again = House(disk, choices)
                self.assert_opened(again, 100, deeds)
                self.assertEqual(again.state(), house.state())

    def test_disks_without_a_journal(self):
        for choices in ([], [-1], [0] * 51):
            self.assertRaises(NotKept, House, Disk(8), choices)

    def test_choices_out_of_range(self):
        for choices in ([-1], [3, -2], [0] * 51):
            disk = disk_with([SPAWN, ("advance", 3), ("cancel", 3), SPAWN])
            disk.write(60, [9] * 32)
            before = contents(disk)
            with self.assertRaises(OutOfRange) as caught:
                House(disk, choices)
            self.assertEqual(caught.exception.name, "choices")
            self.assertEqual((contents(disk), disk.pending_count(), disk.cut_count()), (before, 1, 0))

    def test_choices_out_of_range_behind_a_cut(self):
        # The deeds have three blocks: 76 more are cleared, and then flushed.
        for many in (0, 1, 76):
            disk = disk_with([SPAWN, ("advance", 3)])
            disk.schedule_cut(many, [32] * 80)
            self.assertRaises(PowerCut, House, disk, [-1])
            self.assertEqual(disk.cut_count(), 1)
        disk = disk_with([SPAWN, ("advance", 3)])
        disk.schedule_cut(77, [])
        self.assertRaises(OutOfRange, House, disk, [-1])
        self.assertEqual(disk.cut_count(), 0)
        House(disk, [])
        self.assertRaises(PowerCut, disk.flush)

    def test_clearing_what_is_refused_can_be_cut(self):
        deeds = [SPAWN, ("cancel", 0), ("cancel", 0), ("advance", 3), SPAWN, ("advance", 2)]
        cuts = 0
        for many in range(90):
            disk = disk_with(deeds)
            disk.schedule_cut(many, [0, 32] * 40)
            try:
                self.assert_opened(House(disk, []), 50, deeds[:2])
            except PowerCut:
                cuts += 1
            disk.cut_power([])
            self.assert_opened(House(disk, []), 50, deeds[:2])
        self.assertGreaterEqual(cuts, 75)


def random_deeds(dice, house, many):
    """The deeds that were done to a house, of so many that were tried."""
    plans = random_plans(dice.randrange(10000), 4, 3)
    deeds = []
    for _ in range(many):
        before = house.deed_count()
        deed = random_deed(dice, plans, house.root_count())
        do(house, deed, dice)
        if house.deed_count() > before:
            deeds.append(deed)
    return deeds


def random_deed(dice, plans, roots):
    """A deed that a house would not refuse."""
    words = ["advance", "advance"] + ["spawn", "spawn"] * (roots < 8) + ["cancel"] * (roots > 0)
    word = dice.choice(words)
    if word == "spawn":
        return (word, dice.choice(plans))
    return (word, dice.randrange(roots) if word == "cancel" else dice.choice((0, 1, 1, 2, 3, 30)))


def do(house, deed, dice):
    """Do a deed to a house, with some choices."""
    word, content = deed
    if word == "advance":
        return house.advance(content, [dice.randrange(9) for _ in range(dice.randrange(4))])
    return house.spawn(content) if word == "spawn" else house.cancel(content)


class CutTest(unittest.TestCase):
    def setUp(self):
        self.dice = random.Random(5862)

    def opened(self, disk, grace, deeds, certain):
        """A house that is opened, however often this is cut, and has a beginning of the deeds, all certain ones."""
        house = None
        while house is None:
            try:
                house = House(disk, [self.dice.randrange(9) for _ in range(3)])
            except PowerCut:
                if self.dice.random() < 0.5:
                    disk.schedule_cut(self.dice.randrange(60), torn_ones(self.dice))
        many = house.deed_count()
        self.assertTrue(certain <= many <= len(deeds), (certain, many, len(deeds)))
        self.assertEqual(house.state(), replayed(grace, deeds[:many]).state())
        self.assertEqual((house.synced_count(), house.synced_clock()), (many, house.clock()))
        return house

    def run_and_cut(self, disk, grace):
        """Do deeds to a house on a disk whose power is cut again and again; the house, and all that it told as news."""
        dice = self.dice
        house, deeds, certain, told = House(disk, []), [], 0, []
        plans = random_plans(dice.randrange(10000), 4, 3)
        for _ in range(40):
            if dice.random() < 0.15:
                disk.schedule_cut(dice.randrange(10), torn_ones(dice))
            cuts = disk.cut_count()
            what = dice.choice(("deed", "deed", "deed", "deed", "sync", "sync", "reopen", "cut"))
            if what == "deed":
                deed = random_deed(dice, plans, house.root_count())
                before = house.deed_count()
                try:
                    do(house, deed, dice)
                except PowerCut:
                    deeds = [*deeds, deed]
                if house.deed_count() > before:
                    deeds = [*deeds, deed]
            elif what == "sync":
                try:
                    self.assertEqual(house.sync(), len(deeds))
                    certain = len(deeds)
                except PowerCut:
                    self.assertRaises(NotOpen, house.sync)
            elif what == "cut":
                disk.cut_power(torn_ones(dice))
            if what == "reopen" or disk.cut_count() > cuts:
                house = self.opened(disk, grace, deeds, certain)
                deeds = deeds[:house.deed_count()]
                certain = len(deeds)
            told.extend(house.news())
        disk.cut_power(torn_ones(dice))
        return self.opened(disk, grace, deeds, certain), told

    def assert_true(self, house, told):
        """What was told as news is true of a house that has run to its end."""
        effects = [news for news in house.news() if news[0] == "effect"]
        for news in told:
            if news[0] == "effect":
                self.assertIn(news, effects)
                continue
            _, root, start, plan, cancelled, clock = news
            self.assertEqual((start, plan), (house.started(root), house.plan(root)))
            if cancelled is not None:
                self.assertEqual(cancelled, house.cancelled(root))
            elif house.cancelled(root) is not None:
                self.assertGreaterEqual(house.cancelled(root), clock)

    def test_random_houses(self):
        for _ in range(80):
            grace = self.dice.choice((7, 50, 1000))
            disk = disk_with([], 200, grace)
            house, told = self.run_and_cut(disk, grace)
            for _ in range(3):
                house.advance(1000, [])
            house.sync()
            self.assert_true(house, told)
            for root in range(house.root_count()):
                arguments = (house.plan(root), (root,), house.started(root), house.cancelled(root))
                self.assertEqual((*house.completion(root), house.trace(root)), predict(*arguments))

    def test_each_deed_and_each_number_of_writes(self):
        calls = (("spawn", [RACE], 2), ("cancel", [0], 1), ("advance", [5, [1]], 1), ("sync", [], 1))
        for word, arguments, writes in calls:
            for many in range(4):
                for torn in ([], [32] * 9, [0, 32] * 5, [32, 0] * 5, [17] * 9, [31, 32, 32, 1]):
                    disk = disk_with([])
                    house = House(disk, [])
                    house.spawn(RACE)
                    house.advance(1, [])
                    house.sync()
                    deeds = [SPAWN, ("advance", 1), ("advance", 2)]
                    house.advance(2, [])
                    disk.schedule_cut(many, torn)
                    if many < writes:
                        self.assertRaises(PowerCut, getattr(house, word), *arguments)
                        self.assertRaises(NotOpen, house.sync)
                    else:
                        getattr(house, word)(*arguments)
                        disk.cut_power(torn)
                    deeds += [] if word == "sync" else [(word, arguments[0])]
                    flushed = word == "sync" and many >= writes
                    self.opened(disk, 50, deeds, 3 if flushed else 2)

    def test_the_head_stays(self):
        disk = disk_with([SPAWN])
        for many in range(50):
            disk.schedule_cut(many, torn_ones(self.dice))
            self.opened(disk, 50, [SPAWN], 1)
            disk.cut_power([])
            self.assertEqual(disk.read(0), encode_head(50))


if __name__ == "__main__":
    unittest.main()
