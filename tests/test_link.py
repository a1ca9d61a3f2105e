"""Points 57, 58 and 63: links, their letters, and what they refuse."""

import random
import unittest

from asforetold.books import Book
from asforetold.desks import Desk
from asforetold.disks import Disk
from asforetold.errors import (
    ForetoldError, GraceTooShort, HouseFull, NoLetter, NoRoot, NotOpen, OutOfRange, PowerCut, TooManyRoots,
)
from asforetold.house import House
from asforetold.journal import format_disk
from asforetold.link import DESKS_MOST, Link
from tests.trees import flat, job, jobs, random_plans, replayed, torn_ones

RACE = flat(("race", (job(4), job(9, "gives", 2, 3))))
ALL = flat(("all", (job(2, "gives", 5), job(6, "gives", 7))))


def root_news(root, start, plan, cancelled, clock):
    return ("root", root, start, plan, cancelled, clock)


def outcome_of(function, *arguments):
    """What a call returns, or the class of its error and the name that it tells."""
    try:
        return ("returned", function(*arguments))
    except ForetoldError as error:
        return ("raised", error.__class__, getattr(error, "name", None))


class LinkTest(unittest.TestCase):
    def assert_out_of_range(self, name, function, *arguments):
        self.assertEqual(outcome_of(function, *arguments), ("raised", OutOfRange, name))

    def linked(self, desks=2, blocks=60, grace=100):
        """A link with two roots, the second one cancelled, and a job that has completed."""
        link = Link(grace, desks, blocks)
        link.spawn(RACE)
        link.spawn(ALL)
        link.advance(5, [])
        link.cancel(1)
        link.advance(2, [])
        link.sync()
        return link


# What the link that is made above posts.
NEWS = [
    root_news(0, (0, 0), RACE, None, (7, 0)), root_news(1, (0, 0), ALL, (5, 0), (7, 0)),
    ("effect", (0, 0, 0), 1, (4, 0)), ("effect", (1, 0, 0), 5, (2, 0)),
]
LETTERS = [(0, NEWS[0]), (1, NEWS[0]), (0, NEWS[1]), (1, NEWS[1]), ("book", NEWS[2]), ("book", NEWS[3])]


class MakingTest(LinkTest):
    def test_constants(self):
        self.assertEqual(DESKS_MOST, 3)

    def test_a_new_link(self):
        for desks in (1, 2, 3):
            for grace, blocks in ((0, 8), (1000, 400), (17, 13)):
                link = Link(grace, desks, blocks)
                self.assertIs(link.is_open(), True)
                self.assertEqual((link.clock(), link.synced_clock(), link.synced_count()), ((0, 0), (0, 0), 0))
                self.assertEqual((link.letters(), link.effects(), link.post()), ([], [], 0))
                self.assertEqual(link.state(), replayed(grace, []).state())
                for desk in range(desks):
                    self.assertEqual(link.desk_roots(desk), [])
                    nothing = (link.told(desk, 0), link.foretold(desk, 0), link.desk_clock(desk, 0))
                    self.assertEqual(nothing, (None, None, None))

    def test_what_a_link_is_made_with_out_of_range(self):
        for desks in (0, 4, -1, 100):
            self.assert_out_of_range("desks", Link, 100, desks, 60)
            self.assert_out_of_range("desks", Link, -1, desks, 7)
        for blocks in (7, 401, 0, -1):
            self.assert_out_of_range("blocks", Link, 100, 1, blocks)
            self.assert_out_of_range("blocks", Link, 1001, 1, blocks)
        for grace in (-1, 1001):
            self.assert_out_of_range("grace", Link, grace, 3, 8)

    def test_the_disk_has_so_many_blocks(self):
        link = Link(100, 1, 8)
        for _ in range(7):
            link.advance(1, [])
        self.assertRaises(HouseFull, link.advance, 1, [])
        self.assertEqual((link.clock(), link.sync()), ((7, 0), 7))


class DeedsTest(LinkTest):
    def test_deeds(self):
        link = Link(100, 1, 60)
        self.assertEqual((link.spawn(RACE), link.spawn(ALL)), (0, 1))
        self.assertEqual(link.advance(5, [3, 1]), (5, 0))
        self.assertEqual([link.cancel(1), link.cancel(1)], [True, False])
        self.assertEqual((link.synced_count(), link.synced_clock(), link.clock()), (0, (0, 0), (5, 0)))
        self.assertEqual(link.sync(), 4)
        self.assertEqual((link.synced_count(), link.synced_clock()), (4, (5, 0)))
        self.assertEqual(link.advance(15, []), (20, 0))
        self.assertEqual((link.cancelled(0), link.cancelled(1)), (None, (5, 0)))
        self.assertEqual([link.completion(root)[1:] for root in (0, 1)], [("completed", (1,)), ("cancelled", ())])
        self.assertEqual([entry[0] for entry in link.trace(0)], [(0,), (0, 0, 0), (0, 0, 1)])
        deeds = [("spawn", RACE), ("spawn", ALL), ("advance", 5), ("cancel", 1), ("advance", 15)]
        self.assertEqual(link.state(), replayed(100, deeds).state())

    def test_deeds_that_are_refused(self):
        link = Link(10, 1, 60)
        for many in range(9):
            self.assert_out_of_range("plan", link.spawn, jobs(2))
            self.assertRaises(GraceTooShort, link.spawn, flat(job(1, "gives", 1, 11)))
            for root in (-1, many, 8):
                for call in (link.cancel, link.completion, link.trace, link.cancelled):
                    self.assertRaises(NoRoot, call, root)
            for ticks in (-1, 1001):
                self.assert_out_of_range("ticks", link.advance, ticks, [-1])
            for choices in ([-1], [0] * 51):
                self.assert_out_of_range("choices", link.advance, 5, choices)
            if many < 8:
                link.spawn(flat(job()))
        self.assertRaises(TooManyRoots, link.spawn, flat(job()))
        self.assertEqual(link.sync(), 8)

    def test_random_links_beside_houses(self):
        dice = random.Random(63)
        for _ in range(25):
            disk = Disk(40)
            format_disk(disk, 7)
            link, house = Link(7, 1, 40), House(disk, [])
            plans = random_plans(dice.randrange(1000), 4, 3)
            for _ in range(30):
                word = dice.choice(("spawn", "cancel", "advance", "advance", "sync"))
                arguments = {"spawn": [dice.choice(plans)], "cancel": [dice.randrange(9)], "sync": [],
                             "advance": [dice.choice((0, 1, 2, 5)), [dice.randrange(9)]]}[word]
                told = outcome_of(getattr(house, word), *arguments)
                self.assertEqual(outcome_of(getattr(link, word), *arguments), told)
                for name in ("clock", "synced_clock", "synced_count", "state"):
                    self.assertEqual(getattr(link, name)(), getattr(house, name)())
                for name in ("completion", "trace", "cancelled"):
                    for root in range(9):
                        told = outcome_of(getattr(house, name), root)
                        self.assertEqual(outcome_of(getattr(link, name), root), told)


class LetterTest(LinkTest):
    def test_posting(self):
        link = self.linked()
        self.assertEqual(link.letters(), [])
        self.assertEqual(link.post(), 6)
        self.assertEqual(link.letters(), LETTERS)
        self.assertEqual(link.post(), 6)
        self.assertEqual(link.letters(), LETTERS + LETTERS)

    def test_posting_to_one_and_three_desks(self):
        for desks in (1, 3):
            link = self.linked(desks)
            self.assertEqual(link.post(), 2 * desks + 2)
            roots = [(desk, news) for news in NEWS[:2] for desk in range(desks)]
            self.assertEqual(link.letters(), roots + LETTERS[4:])

    def test_posting_tells_what_is_synced(self):
        link = self.linked(1)
        link.advance(10, [])
        link.spawn(ALL)
        self.assertEqual(link.post(), 4)
        self.assertEqual([letter[1] for letter in link.letters()], NEWS)
        link.sync()
        self.assertEqual(link.post(), 5)
        self.assertEqual(link.letters()[4:6], [
            (0, root_news(0, (0, 0), RACE, None, (17, 0))), (0, root_news(1, (0, 0), ALL, (5, 0), (17, 0))),
        ])

    def test_delivering(self):
        link = self.linked()
        link.post()
        self.assertIs(link.deliver(3), True)
        self.assertEqual(link.letters(), LETTERS[:3] + LETTERS[4:])
        self.assertEqual((link.desk_roots(0), link.desk_roots(1), link.desk_clock(1, 1)), ([], [1], (7, 0)))
        self.assertIs(link.deliver(3), True)
        self.assertEqual(link.effects(), [NEWS[2]])
        self.assertIs(link.deliver(0), True)
        self.assertEqual(link.desk_roots(0), [0])
        self.assertEqual(link.letters(), [LETTERS[1], LETTERS[2], LETTERS[5]])
        for left in (2, 1, 0):
            self.assertIs(link.deliver(left), True)
        self.assertEqual((link.letters(), link.effects()), ([], [NEWS[2], NEWS[3]]))
        self.assertRaises(NoLetter, link.deliver, 0)
        link.post()
        for _ in range(6):
            self.assertIs(link.deliver(0), False)
        self.assertEqual(link.effects(), [NEWS[2], NEWS[3]])

    def test_dropping(self):
        link = self.linked()
        link.post()
        for index, left in ((5, LETTERS[:5]), (0, LETTERS[1:5]), (2, LETTERS[1:3] + LETTERS[4:5])):
            self.assertIsNone(link.drop(index))
            self.assertEqual(link.letters(), left)
        self.assertEqual((link.effects(), link.desk_roots(0), link.desk_roots(1)), ([], [], []))

    def test_duplicating(self):
        link = self.linked()
        link.post()
        self.assertIsNone(link.duplicate(1))
        self.assertIsNone(link.duplicate(4))
        self.assertIsNone(link.duplicate(6))
        self.assertEqual(link.letters(), [*LETTERS, LETTERS[1], LETTERS[4], LETTERS[1]])
        self.assertEqual([link.deliver(8), link.deliver(6), link.deliver(1)], [True, False, False])
        self.assertEqual([link.deliver(3), link.deliver(4)], [True, False])
        self.assertEqual(link.letters(), [LETTERS[0], LETTERS[2], LETTERS[3], LETTERS[5]])
        self.assertEqual((link.effects(), link.desk_roots(0), link.desk_roots(1)), (NEWS[2:3], [], [0]))

    def test_indexes_out_of_range(self):
        link = self.linked()
        for call in (link.deliver, link.drop, link.duplicate):
            for index in (0, -1, 1):
                self.assertRaises(NoLetter, call, index)
        link.post()
        for call in (link.deliver, link.drop, link.duplicate):
            for index in (-1, 6, 7, -6, 100):
                self.assertRaises(NoLetter, call, index)
        self.assertEqual((link.letters(), link.effects(), link.desk_roots(0)), (LETTERS, [], []))

    def test_what_desks_tell(self):
        link = self.linked()
        desks = [Desk(), Desk()]
        link.post()
        for index in (0, 2, 1):
            desk, news = link.letters()[index]
            self.assertEqual(link.deliver(index), desks[desk].hear(news))
            for number, like in enumerate(desks):
                self.assertEqual(link.desk_roots(number), like.roots())
                for root in (0, 1, 2):
                    self.assertEqual(link.told(number, root), like.told(root))
                    self.assertEqual(link.foretold(number, root), like.foretold(root))
                    self.assertEqual(link.desk_clock(number, root), like.clock(root))

    def test_desks_out_of_range(self):
        for desks in (1, 2, 3):
            link = Link(5, desks, 8)
            for desk in (-1, desks, desks + 1, -desks):
                for call in (link.told, link.foretold, link.desk_clock):
                    self.assert_out_of_range("desk", call, desk, 0)
                self.assert_out_of_range("desk", link.desk_roots, desk)

    def test_lists_that_are_handed_out_are_new(self):
        link = self.linked()
        link.post()
        link.letters().clear()
        link.letters().append(None)
        self.assertEqual(link.letters(), LETTERS)
        for _ in range(6):
            link.deliver(0)
        link.effects().clear()
        link.desk_roots(0).clear()
        link.told(0, 0).clear()
        self.assertEqual((link.effects(), link.desk_roots(0), len(link.told(0, 0))), (NEWS[2:], [0, 1], 1))

    def test_random_letters(self):
        dice = random.Random(58)
        for _ in range(30):
            desks = dice.randint(1, 3)
            link, row, book, heard = self.linked(desks), [], Book(), [Desk() for _ in range(desks)]
            for _ in range(40):
                what = dice.choice(("post", "deliver", "deliver", "deliver", "drop", "duplicate", "deed"))
                index = dice.randrange(-1, len(row) + 1)
                inside = 0 <= index < len(row)
                if what == "deed":
                    link.advance(1, [])
                    link.sync()
                elif what == "post":
                    more = self.posted(link, desks)
                    self.assertEqual(link.post(), len(more))
                    row.extend(more)
                elif not inside:
                    self.assertRaises(NoLetter, getattr(link, what), index)
                elif what == "deliver":
                    receiver, news = row.pop(index)
                    new = book.take(news) if receiver == "book" else heard[receiver].hear(news)
                    self.assertIs(link.deliver(index), new)
                else:
                    self.assertIsNone(getattr(link, what)(index))
                    row = row + [row[index]] if what == "duplicate" else row[:index] + row[index + 1:]
                self.assertEqual((link.letters(), link.effects()), (row, book.effects()))
                self.assertEqual([link.desk_roots(desk) for desk in range(desks)], [desk.roots() for desk in heard])

    def posted(self, link, desks):
        """The letters that a link posts that has two roots and all its deeds synced."""
        roots = [(0, (0, 0), RACE, None, link.clock()), (1, (0, 0), ALL, (5, 0), link.clock())]
        return [(desk, ("root", *told)) for told in roots for desk in range(desks)] + LETTERS[4:]


class CutTest(LinkTest):
    def assert_closed(self, link):
        """The house is not open, whatever else is wrong with a call."""
        self.assertIs(link.is_open(), False)
        for plan in (RACE, ()):
            self.assertRaises(NotOpen, link.spawn, plan)
        for root in (0, 1, 8, -1):
            for call in (link.cancel, link.completion, link.trace, link.cancelled):
                self.assertRaises(NotOpen, call, root)
        for ticks, choices in ((5, []), (1001, []), (5, [-1])):
            self.assertRaises(NotOpen, link.advance, ticks, choices)
        for call in (link.sync, link.post, link.clock, link.synced_clock, link.synced_count, link.state):
            self.assertRaises(NotOpen, call)

    def test_letters_book_and_desks_go_on(self):
        link = self.linked()
        link.post()
        link.deliver(4)
        self.assertIsNone(link.cut_power([]))
        self.assert_closed(link)
        self.assertEqual((link.letters(), link.effects()), (LETTERS[:4] + LETTERS[5:], [NEWS[2]]))
        self.assertEqual([link.deliver(0), link.deliver(0)], [True, True])
        link.duplicate(0)
        link.drop(2)
        self.assertEqual(link.letters(), LETTERS[2:4] + LETTERS[2:3])
        self.assertEqual((link.desk_roots(0), link.desk_roots(1), link.desk_clock(0, 0)), ([0], [0], (7, 0)))
        self.assertEqual(link.told(0, 0), [((7, 0), "completed", (1,))])
        self.assertEqual(link.foretold(1, 0)[:3], ((7, 0), "completed", (1,)))
        self.assert_out_of_range("desk", link.told, 2, 0)
        self.assertRaises(NoLetter, link.deliver, 3)
        self.assert_closed(link)
        self.assertEqual(link.reopen([2]), 5)
        self.assertIs(link.is_open(), True)
        self.assertEqual(link.letters(), LETTERS[2:4] + LETTERS[2:3])
        self.assertEqual((link.post(), link.effects()), (6, [NEWS[2]]))

    def test_what_was_not_synced_can_be_lost(self):
        # The first deed needs one block, and the second one two.
        kept = {(): 5, (32,): 6, (31,): 5, (32, 32): 6, (0, 32, 32): 5, (32, 32, 31): 6, (32,) * 3: 7, (32,) * 9: 7}
        for torn, many in kept.items():
            link = self.linked()
            link.advance(1, [])
            link.spawn(ALL)
            link.cut_power(list(torn))
            self.assert_closed(link)
            self.assertEqual(link.reopen([]), many)
            self.assertEqual((link.synced_count(), link.synced_clock()), (many, link.clock()))
            self.assertEqual(link.clock(), (7, 0) if many == 5 else (8, 0))

    def test_scheduled_cuts(self):
        for many in range(4):
            link = self.linked()
            self.assertIsNone(link.schedule_cut(many, [32]))
            for number in range(many):
                self.assertEqual(link.advance(1, []), (8 + number, 0))
            self.assertRaises(PowerCut, link.advance, 1, [])
            self.assert_closed(link)
            self.assertEqual(link.reopen([]), 5 + min(many, 1))
            self.assertEqual(link.clock(), (7 + min(many, 1), 0))
        link.schedule_cut(0, [])
        self.assertRaises(PowerCut, link.sync)
        self.assert_closed(link)
        link.reopen([])
        link.schedule_cut(1, [32, 32])
        self.assertRaises(PowerCut, link.spawn, RACE)
        self.assert_closed(link)

    def test_cuts_out_of_range(self):
        link = self.linked()
        for torn in ([33], [-1]):
            self.assert_out_of_range("torn", link.cut_power, torn)
            self.assert_out_of_range("torn", link.schedule_cut, 0, torn)
            self.assert_out_of_range("many", link.schedule_cut, -1, torn)
        self.assert_out_of_range("many", link.schedule_cut, 100001, [])
        self.assertEqual((link.is_open(), link.sync()), (True, 5))

    def test_reopening_an_open_house(self):
        link = self.linked()
        link.advance(3, [])
        link.spawn(ALL)
        before = link.state()
        self.assertEqual(link.reopen([4]), 7)
        self.assertEqual((link.state(), link.synced_count(), link.synced_clock()), (before, 7, (10, 0)))
        link.cut_power([])
        self.assertEqual(link.reopen([]), 7)
        self.assertEqual(link.state(), before)

    def test_reopening_with_choices_out_of_range(self):
        for choices in ([-1], [2, -1], [0] * 51):
            link = self.linked()
            link.schedule_cut(0, [])
            self.assert_out_of_range("choices", link.reopen, choices)
            self.assertEqual((link.is_open(), link.clock()), (True, (7, 0)))
            link.cut_power([])
            self.assert_out_of_range("choices", link.reopen, choices)
            self.assert_closed(link)

    def test_reopening_that_is_cut(self):
        for open_before in (False, True):
            link = self.linked()
            link.post()
            cuts = 0
            for many in range(60):
                if not open_before:
                    link.cut_power([])
                link.schedule_cut(many, [32, 0, 7])
                if outcome_of(link.reopen, [1]) == ("raised", PowerCut, None):
                    cuts += 1
                    self.assert_closed(link)
                    self.assertEqual(link.letters(), LETTERS)
                    self.assertEqual(link.reopen([]), 5)
                self.assertEqual((link.clock(), link.synced_count()), ((7, 0), 5))
            self.assertGreater(cuts, 40)

    def test_nothing_is_kept_of_what_was_handed_in(self):
        link = self.linked()
        torn, choices = [32, 32], [1]
        link.schedule_cut(1, torn)
        torn[:] = [0, 0]
        link.advance(1, choices)
        self.assertRaises(PowerCut, link.advance, 1, choices)
        self.assertEqual(link.reopen(choices), 6)
        self.assertEqual((torn, choices), ([0, 0], [1]))

    def test_random_cuts(self):
        dice = random.Random(6363)
        for _ in range(40):
            link, deeds, certain = Link(7, 1, 120), [], 0
            plans = random_plans(dice.randrange(1000), 3, 3)
            for _ in range(25):
                if dice.random() < 0.2:
                    link.schedule_cut(dice.randrange(12), torn_ones(dice))
                deed = dice.choice((("spawn", dice.choice(plans)), ("advance", dice.randrange(5)), ("sync", None)))
                arguments = {"spawn": [deed[1]], "advance": [deed[1], [3]], "sync": []}[deed[0]]
                told = outcome_of(getattr(link, deed[0]), *arguments)
                if deed[0] != "sync" and told[1] not in (TooManyRoots, HouseFull):
                    deeds = [*deeds, deed]
                elif deed[0] == "sync" and told[0] == "returned":
                    certain = told[1]
                while not link.is_open():
                    told = outcome_of(link.reopen, [dice.randrange(5)])
                    self.assertIn(told[1:], [(PowerCut, None), *[(many,) for many in range(certain, len(deeds) + 1)]])
                    if told[0] == "returned":
                        deeds = deeds[:told[1]]
                        certain = told[1]
                self.assertEqual(link.state(), replayed(7, deeds).state())


if __name__ == "__main__":
    unittest.main()
