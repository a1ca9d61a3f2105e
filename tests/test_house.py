"""Points 57 to 59: houses beside plain schedulers, to which the same is done."""

import copy
import random
import unittest

from asforetold.deeds import write_deed
from asforetold.disks import Disk
from asforetold.errors import (
    ForetoldError, GraceTooShort, HouseFull, NoRoot, NotOpen, OutOfRange, PowerCut, TooManyRoots,
)
from asforetold.foretelling import predict
from asforetold.house import House
from asforetold.journal import format_disk, open_journal
from asforetold.scheduler import Scheduler
from tests.trees import contents, flat, job, jobs, news_of, random_plans, replayed

RACE = flat(("race", (job(4), job(9, "gives", 2, 3))))
ALL = flat(("all", (job(2, "gives", 5), job(6, "gives", 7))))


def disk_of(size=60, grace=100):
    disk = Disk(size)
    format_disk(disk, grace)
    return disk


def outcome_of(function, *arguments):
    """What a call returns, or the class of its error and the name that it tells."""
    try:
        return ("returned", function(*arguments))
    except ForetoldError as error:
        return ("raised", error.__class__, getattr(error, "name", None))


class HouseTest(unittest.TestCase):
    def assert_out_of_range(self, name, function, *arguments):
        self.assertEqual(outcome_of(function, *arguments), ("raised", OutOfRange, name))

    def assert_like(self, house, scheduler):
        """Whatever a house tells of its scheduler is what another scheduler tells."""
        self.assertEqual(house.state(), scheduler.state())
        self.assertEqual(house.clock(), scheduler.clock())
        self.assertEqual(house.root_count(), scheduler.root_count())
        for root in range(-1, scheduler.root_count() + 2):
            for name in ("plan", "started", "cancelled", "completion", "trace"):
                self.assertEqual(outcome_of(getattr(house, name), root), outcome_of(getattr(scheduler, name), root))


class DeedsTest(HouseTest):
    def test_a_new_house(self):
        house = House(disk_of(60, 17), [])
        self.assert_like(house, Scheduler(17))
        self.assertEqual((house.clock(), house.synced_clock()), ((0, 0), (0, 0)))
        self.assertEqual((house.deed_count(), house.synced_count(), house.root_count()), (0, 0, 0))
        self.assertEqual((house.free_blocks(), house.news()), (59, []))

    def test_deeds_are_done_and_counted(self):
        house = House(disk_of(), [])
        self.assertEqual(house.spawn(RACE), 0)
        self.assertEqual(house.spawn(ALL), 1)
        self.assertEqual(house.advance(3, [1, 0]), (3, 0))
        self.assertIs(house.cancel(1), True)
        self.assertEqual(house.deed_count(), 4)
        self.assertEqual(house.advance(0, []), (3, 1))
        self.assertEqual((house.deed_count(), house.synced_count(), house.root_count()), (5, 0, 2))
        self.assertEqual((house.plan(0), house.plan(1)), (RACE, ALL))
        self.assertEqual((house.started(1), house.cancelled(1), house.cancelled(0)), ((0, 0), (3, 0), None))
        self.assertEqual((house.completion(0), house.completion(1)), (None, ((3, 1), "cancelled", ())))
        self.assertEqual(house.trace(1), predict(ALL, (1,), (0, 0), (3, 0))[3])
        self.assertEqual(house.free_blocks(), 59 - 2 - 2 - 1 - 1 - 1)

    def test_each_deed_is_appended_and_not_flushed(self):
        disk = disk_of()
        house = House(disk, [])
        house.spawn(RACE)
        house.advance(5, [3])
        house.cancel(0)
        self.assertEqual(disk.pending_count(), 4)
        other = open_journal(disk.duplicate())
        self.assertEqual(other.deeds(), [("spawn", RACE), ("advance", 5), ("cancel", 0)])
        self.assertEqual(other.grace(), 100)

    def test_a_cancellation_without_effect_is_no_deed(self):
        disk = disk_of()
        house = House(disk, [])
        house.spawn(RACE)
        house.spawn(ALL)
        self.assertIs(house.cancel(0), True)
        house.advance(20, [])
        before = (house.state(), house.deed_count(), disk.pending_count(), house.free_blocks())
        for root in (0, 1):
            self.assertIs(house.cancel(root), False)
        self.assertEqual((house.state(), house.deed_count(), disk.pending_count(), house.free_blocks()), before)
        house.spawn(RACE)
        self.assertEqual([house.cancel(2), house.cancel(2)], [True, False])
        house.advance(0, [])
        self.assertIs(house.cancel(2), False)
        self.assertEqual(house.deed_count(), 7)

    def test_what_is_refused_is_no_deed(self):
        disk = disk_of(60, 10)
        house = House(disk, [])
        for many in range(9):
            before = (house.state(), house.deed_count(), disk.pending_count(), contents(disk))
            self.assert_out_of_range("plan", house.spawn, jobs(2))
            self.assertRaises(GraceTooShort, house.spawn, flat(job(1, "gives", 1, 11)))
            for root in (-1, many, 8, 100):
                self.assertRaises(NoRoot, house.cancel, root)
            for ticks in (-1, 1001):
                self.assert_out_of_range("ticks", house.advance, ticks, [-1])
            for choices in ([-1], [1, 2, -3], [0] * 51):
                self.assert_out_of_range("choices", house.advance, 1, choices)
            if many == 8:
                self.assertRaises(TooManyRoots, house.spawn, flat(job()))
            self.assertEqual((house.state(), house.deed_count(), disk.pending_count(), contents(disk)), before)
            if many < 8:
                self.assertEqual(house.spawn(flat(job(1, "gives", 1, 10))), many)

    def test_random_houses_beside_schedulers(self):
        dice = random.Random(57)
        for _ in range(60):
            size, grace = dice.choice((8, 12, 20, 40, 200)), dice.choice((0, 3, 7, 100, 1000))
            disk = disk_of(size, grace)
            self.compare(House(disk, []), disk, Scheduler(grace), dice)

    def compare(self, house, disk, scheduler, dice):
        plans = random_plans(dice.randrange(10000), 4, 3)
        deeds, synced, free = [], 0, disk.size() - 1
        for _ in range(30):
            word = dice.choice(("spawn", "spawn", "cancel", "advance", "advance", "sync"))
            content = {"spawn": dice.choice([*plans, (), flat(job(1, "gives", 1, 8))]), "cancel": dice.randrange(-1, 8),
                       "advance": dice.choice((0, 1, 2, 3, 50, 1000, 1001)), "sync": None}[word]
            choices = [dice.randrange(9) for _ in range(dice.randrange(4))]
            if word == "sync":
                self.assertEqual(house.sync(), len(deeds))
                synced = len(deeds)
            else:
                deed = (word, content)
                told, needs = self.expected(scheduler, deed, choices, free, len(deeds))
                more = [choices] if word == "advance" else []
                self.assertEqual(outcome_of(getattr(house, word), content, *more), told)
                if needs > 0:
                    deeds.append(deed)
                    free -= needs
            self.assert_like(house, scheduler)
            certain = replayed(scheduler.grace(), deeds[:synced])
            self.assertEqual((house.deed_count(), house.synced_count()), (len(deeds), synced))
            self.assertEqual((house.free_blocks(), house.synced_clock()), (free, certain.clock()))
            self.assertEqual(house.news(), news_of(certain))
        self.assertEqual(open_journal(disk).deeds(), deeds)

    def expected(self, scheduler, deed, choices, free, many):
        """What a deed leads to, and how many blocks it needs; it is done to the scheduler if there is room."""
        word, content = deed
        name = "run" if word == "advance" else word
        arguments = [content, choices] if word == "advance" else [content]
        tried = outcome_of(getattr(copy.deepcopy(scheduler), name), *arguments)
        if tried[0] == "raised" or tried[1] is False:
            return tried, 0
        needs = -(-len(write_deed(deed)) // 24)
        if needs > free or many >= 200:
            return ("raised", HouseFull, None), 0
        return outcome_of(getattr(scheduler, name), *arguments), needs


class RoomTest(HouseTest):
    def assert_full(self, house, disk):
        """No deed finds room, and what is refused or has no effect is told as before."""
        before = (house.state(), house.deed_count(), house.free_blocks(), disk.pending_count(), contents(disk))
        self.assertRaises(HouseFull, house.spawn, RACE)
        self.assertRaises(HouseFull, house.advance, 5, [1])
        self.assertRaises(HouseFull, house.advance, 0, [])
        self.assertRaises(HouseFull, house.cancel, 0)
        self.assertIs(house.cancel(1), False)
        self.assertRaises(NoRoot, house.cancel, 2)
        self.assert_out_of_range("plan", house.spawn, ())
        self.assertRaises(GraceTooShort, house.spawn, flat(job(1, "gives", 1, 100)))
        self.assert_out_of_range("ticks", house.advance, 1001, [-1])
        self.assert_out_of_range("choices", house.advance, 5, [-1])
        after = (house.state(), house.deed_count(), house.free_blocks(), disk.pending_count(), contents(disk))
        self.assertEqual(after, before)

    def test_no_blocks_are_left(self):
        disk = disk_of(8, 50)
        house = House(disk, [])
        house.spawn(RACE)
        house.spawn(ALL)
        house.cancel(1)
        self.assertEqual(house.free_blocks(), 2)
        wide = flat(("all", (job(4), job(9, "gives", 2, 3), job(100, "throws", 9, 30))))
        self.assertRaises(HouseFull, house.spawn, wide)
        self.assertEqual((house.root_count(), house.deed_count()), (2, 3))
        house.advance(1, [])
        house.advance(1, [])
        self.assert_full(house, disk)
        self.assertEqual(house.sync(), 5)
        self.assert_full(house, disk)
        self.assert_full(House(disk, []), disk)

    def test_two_hundred_deeds(self):
        disk = disk_of(400, 50)
        house = House(disk, [])
        house.spawn(RACE)
        house.spawn(ALL)
        house.cancel(1)
        for many in range(3, 200):
            self.assertEqual(house.deed_count(), many)
            house.advance(0, [])
        self.assert_full(house, disk)
        self.assertEqual((house.deed_count(), house.free_blocks()), (200, 197))
        self.assertEqual(house.sync(), 200)
        house = House(disk, [5])
        self.assert_full(house, disk)
        self.assertEqual((house.deed_count(), house.synced_count()), (200, 200))


class SyncTest(HouseTest):
    def test_syncing_flushes(self):
        disk = disk_of()
        house = House(disk, [])
        self.assertEqual(house.sync(), 0)
        house.spawn(RACE)
        house.advance(3, [])
        self.assertEqual((house.sync(), disk.pending_count()), (2, 0))
        self.assertEqual((house.synced_count(), house.synced_clock()), (2, (3, 0)))
        house.advance(1, [])
        self.assertEqual((house.deed_count(), house.synced_count()), (3, 2))
        self.assertEqual((house.clock(), house.synced_clock()), ((4, 1), (3, 0)))
        self.assertEqual(house.sync(), 3)
        self.assertEqual((house.synced_count(), house.synced_clock()), (3, (4, 1)))

    def test_news_are_what_the_synced_deeds_tell(self):
        house = House(disk_of(), [])
        house.spawn(ALL)
        house.advance(3, [])
        self.assertEqual(house.news(), [])
        house.sync()
        first = [("root", 0, (0, 0), ALL, None, (3, 0)), ("effect", (0, 0, 0), 5, (2, 0))]
        self.assertEqual(house.news(), first)
        house.cancel(0)
        house.spawn(RACE)
        house.advance(5, [])
        self.assertEqual(house.news(), first)
        house.sync()
        roots = [("root", 0, (0, 0), ALL, (3, 0), (8, 0)), ("root", 1, (3, 0), RACE, None, (8, 0))]
        self.assertEqual(house.news(), roots + [("effect", (0, 0, 0), 5, (2, 0)), ("effect", (1, 0, 0), 1, (7, 0))])

    def test_a_cancellation_that_is_requested_and_not_applied(self):
        house = House(disk_of(), [])
        house.spawn(RACE)
        house.advance(3, [])
        house.cancel(0)
        house.sync()
        self.assertEqual(house.news(), [("root", 0, (0, 0), RACE, None, (3, 0))])
        house.advance(0, [])
        house.sync()
        self.assertEqual(house.news(), [("root", 0, (0, 0), RACE, (3, 0), (3, 1))])

    def test_effects_of_every_kind_of_node(self):
        house = House(disk_of(200, 1000), [])
        plan = flat(("pool", 2, (
            ("race", (job(4, "gives", 3, 5), job(9))), ("any", (job(1, "throws"), ("timeout", 9, job(8, "gives", 6)))),
            ("sequence", (job(2), job(3, "gives", 4))), ("all", (job(0), ("retry", 2, 1, job(1)))),
        )))
        other = flat(("timeout", 9, ("orelse", job(1, "throws", 4), ("retry", 1, 0, ("any", (job(2, "gives", 8),))))))
        for part in (other, plan, other):
            house.spawn(part)
        for ticks in (1, 1, 1, 3, 1000, 1000):
            house.advance(ticks, [2, 1])
            house.sync()
            predictions = [predict(house.plan(root), (root,), (0, 0), None)[3] for root in range(3)]
            done = [entry for trace in predictions for entry in trace if entry[2] <= house.clock()]
            leaves = [("effect", entry[0], entry[4][0], entry[2]) for entry in done
                      if entry[3] == "completed" and self.node_of(house, entry[0])[0] == "job"]
            self.assertEqual([news for news in house.news() if news[0] == "effect"], leaves)
        self.assertGreater(len(leaves), 6)

    def node_of(self, house, path):
        """The node that a task carries out, found from the whole of its plan down."""
        plan = house.plan(path[0])
        node = plan[-1]
        for scope, part in zip(path[1::2], path[2::2]):
            if node[0] in ("timeout", "retry"):
                node = plan[node[-1]]
            elif node[0] == "orelse":
                node = plan[node[1 + scope]]
            elif node[0] == "sequence":
                node = plan[node[1][scope]]
            else:
                node = plan[node[-1][part]]
        return node

    def test_lists_that_are_handed_out_are_new(self):
        house = House(disk_of(), [])
        house.spawn(ALL)
        house.advance(3, [])
        house.sync()
        kept = list(house.news())
        house.news().clear()
        house.news().append(None)
        self.assertEqual(house.news(), kept)

    def test_choices_that_are_handed_in_stay(self):
        disk = disk_of()
        choices = [3, 1]
        house = House(disk, choices)
        house.spawn(ALL)
        house.advance(3, choices)
        House(disk, choices)
        self.assertEqual(choices, [3, 1])


class ClosedTest(HouseTest):
    def assert_closed(self, house):
        """Each deed is refused as the house is not open, whatever else is wrong with it."""
        before = (house.state(), house.deed_count(), house.synced_count(), house.news(), house.synced_clock())
        for plan in (RACE, ()):
            self.assertRaises(NotOpen, house.spawn, plan)
        for root in (0, 1, -1, 8):
            self.assertRaises(NotOpen, house.cancel, root)
        for ticks, choices in ((5, []), (1001, []), (0, [-1])):
            self.assertRaises(NotOpen, house.advance, ticks, choices)
        self.assertRaises(NotOpen, house.sync)
        after = (house.state(), house.deed_count(), house.synced_count(), house.news(), house.synced_clock())
        self.assertEqual(after, before)

    def test_a_cut_closes_the_house(self):
        disk = disk_of()
        house = House(disk, [])
        house.spawn(RACE)
        house.sync()
        house.spawn(ALL)
        disk.cut_power([])
        self.assert_closed(house)
        house = House(disk, [])
        self.assertEqual((house.deed_count(), house.root_count()), (1, 1))
        self.assertEqual(house.spawn(ALL), 1)

    def test_a_deed_that_is_cut_is_not_done(self):
        for deed, arguments in (("spawn", [RACE]), ("cancel", [0]), ("advance", [5, []]), ("sync", [])):
            disk = disk_of()
            house = House(disk, [])
            house.spawn(ALL)
            house.sync()
            house.advance(1, [])
            before = (house.state(), house.deed_count(), house.synced_count(), house.news(), house.synced_clock())
            disk.schedule_cut(0, [])
            self.assertRaises(PowerCut, getattr(house, deed), *arguments)
            after = (house.state(), house.deed_count(), house.synced_count(), house.news(), house.synced_clock())
            self.assertEqual(after, before)
            self.assert_closed(house)

    def test_what_is_refused_does_not_meet_a_cut(self):
        disk = disk_of()
        house = House(disk, [])
        house.spawn(ALL)
        house.advance(20, [])
        disk.schedule_cut(0, [])
        self.assertIs(house.cancel(0), False)
        self.assertRaises(NoRoot, house.cancel, 1)
        self.assert_out_of_range("plan", house.spawn, ())
        self.assert_out_of_range("ticks", house.advance, -1, [])
        self.assertEqual(disk.cut_count(), 0)
        self.assertRaises(PowerCut, house.advance, 1, [])


if __name__ == "__main__":
    unittest.main()
