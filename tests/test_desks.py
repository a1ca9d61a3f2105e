"""Points 61 and 62: desks, what they hear, and what they foretell from it."""

import itertools
import random
import unittest

from asforetold.desks import Desk
from asforetold.errors import UnlikeNews
from asforetold.foretelling import end_of, predict
from asforetold.outlooks import outlook
from asforetold.scheduler import Scheduler
from tests.trees import flat, job, news_of, random_plans

RACE = flat(("race", (job(4), job(9, "gives", 2, 3))))
OTHER = flat(("race", (job(4), job(9, "gives", 2, 4))))
ALL = flat(("all", (job(20, "gives", 3), job(6, "throws", 7, 2))))


def news(clock, cancelled=None, root=0, start=(0, 0), plan=RACE):
    return ("root", root, start, plan, cancelled, clock)


class DeskTest(unittest.TestCase):
    def desk(self, *heard):
        desk = Desk()
        for told in heard:
            desk.hear(told)
        return desk

    def known(self, desk):
        """All that a desk tells of roots."""
        roots = range(4)
        return (desk.roots(), [(desk.clock(root), desk.foretold(root), desk.told(root)) for root in roots])

    def assert_unlike(self, heard, told):
        """These news contradict those that were heard, which are not changed by them."""
        desk = self.desk(*heard)
        before = self.known(desk)
        for _ in range(2):
            self.assertRaises(UnlikeNews, desk.hear, told)
            self.assertEqual(self.known(desk), before)
        for one in heard:
            self.assertIs(desk.hear(one), False)

    def assert_like(self, heard, told):
        """These news do not contradict those that were heard, in whatever order all are."""
        for order in itertools.permutations([*heard, told]):
            self.desk(*order)


class NewTest(DeskTest):
    def test_a_new_desk(self):
        desk = Desk()
        self.assertEqual(desk.roots(), [])
        for root in (0, 1, 7, 8, -1):
            self.assertEqual((desk.clock(root), desk.foretold(root), desk.told(root)), (None, None, None))

    def test_news_of_a_root_are_new_once(self):
        desk = Desk()
        for told in (news((3, 0)), news((3, 0), None, 2, (3, 0), ALL), news((9, 4), (5, 0), 1)):
            self.assertIs(desk.hear(told), True)
            self.assertIs(desk.hear(told), False)
        self.assertEqual(desk.roots(), [0, 1, 2])
        self.assertEqual([desk.clock(root) for root in range(4)], [(3, 0), (9, 4), (3, 0), None])

    def test_later_clocks_are_new(self):
        desk = self.desk(news((3, 2)))
        for clock, new in (((3, 1), False), ((2, 9), False), ((3, 2), False), ((3, 3), True), ((4, 0), True)):
            self.assertIs(desk.hear(news(clock)), new, clock)
        self.assertEqual(desk.clock(0), (4, 0))
        self.assertIs(desk.hear(news((3, 9))), False)
        self.assertEqual(desk.clock(0), (4, 0))

    def test_a_cancellation_is_new(self):
        desk = self.desk(news((3, 2)))
        self.assertIs(desk.hear(news((3, 3), (3, 2))), True)
        self.assertIs(desk.hear(news((3, 3), (3, 2))), False)
        self.assertIs(desk.hear(news((3, 2))), False)
        self.assertIs(desk.hear(news((9, 0), (3, 2))), True)
        self.assertIs(desk.hear(news((5, 0), (3, 2))), False)
        self.assertEqual(desk.clock(0), (9, 0))

    def test_a_cancellation_is_new_with_a_clock_that_is_not_later(self):
        desk = self.desk(news((3, 2)))
        self.assertIs(desk.hear(news((3, 2), (3, 2))), True)
        self.assertIs(desk.hear(news((3, 2), (3, 2))), False)
        self.assertEqual(desk.clock(0), (3, 2))

    def test_older_news_behind_a_cancellation(self):
        desk = self.desk(news((9, 0), (3, 2)))
        for clock in ((3, 2), (0, 0), (3, 0)):
            self.assertIs(desk.hear(news(clock)), False)
        self.assertEqual(desk.clock(0), (9, 0))
        self.assertEqual(desk.told(0)[0][0], (3, 2))

    def test_roots_are_apart(self):
        desk = self.desk(news((5, 0)))
        self.assertIs(desk.hear(news((3, 0), (2, 0), 1, (1, 0), ALL)), True)
        self.assertIs(desk.hear(news((6, 0), (5, 0))), True)
        self.assertEqual((desk.clock(0), desk.clock(1)), ((6, 0), (3, 0)))
        self.assertEqual([desk.told(root)[0][0] for root in (0, 1)], [(5, 0), (2, 0)])

    def test_lists_that_are_handed_out_are_new(self):
        desk = self.desk(news((0, 0)), news((5, 0), (4, 0), 1))
        before = self.known(desk)
        desk.roots().clear()
        desk.told(0).pop()
        desk.told(1).append(None)
        self.assertEqual(self.known(desk), before)


class UnlikeTest(DeskTest):
    def test_another_start(self):
        for start in ((0, 1), (1, 0)):
            self.assert_unlike([news((5, 0))], news((5, 0), None, 0, start))
            self.assert_unlike([news((5, 0))], news((7, 0), (6, 0), 0, start))
            self.assert_unlike([news((7, 0), (6, 0))], news((5, 0), None, 0, start))

    def test_another_plan(self):
        for plan in (OTHER, ALL, RACE[:1]):
            self.assert_unlike([news((5, 0))], news((5, 0), None, 0, (0, 0), plan))
            self.assert_unlike([news((5, 0))], news((7, 0), (6, 0), 0, (0, 0), plan))
            self.assert_unlike([news((7, 0), (6, 0))], news((7, 0), (6, 0), 0, (0, 0), plan))

    def test_another_cancellation(self):
        for cancelled in ((6, 1), (5, 9), (7, 0), (0, 0)):
            self.assert_unlike([news((9, 0), (6, 0))], news((9, 0), cancelled))
            self.assert_unlike([news((9, 0), (6, 0)), news((3, 0))], news((99, 0), cancelled))

    def test_a_cancellation_before_a_clock_without_one(self):
        for cancelled, clock in (((6, 0), (6, 1)), ((6, 3), (7, 0)), ((0, 0), (0, 1)), ((5, 0), (99, 0))):
            self.assert_unlike([news((100, 0), cancelled)], news(clock))
            self.assert_unlike([news(clock)], news((100, 0), cancelled))
            self.assert_unlike([news((0, 0)), news(clock), news((0, 0))], news((100, 0), cancelled))
            self.assert_unlike([news((100, 0), cancelled), news((0, 0))], news(clock))

    def test_the_clock_of_news_with_the_cancellation_does_not_contradict(self):
        desk = self.desk(news((3, 0)), news((50, 0), (6, 0)))
        self.assertIs(desk.hear(news((6, 0))), False)
        self.assertRaises(UnlikeNews, desk.hear, news((6, 1)))

    def test_news_that_do_not_contradict(self):
        self.assert_like([news((6, 0))], news((6, 1), (6, 0)))
        self.assert_like([news((6, 0)), news((2, 0))], news((9, 0), (6, 0)))
        self.assert_like([news((7, 0), (6, 0)), news((8, 0), (6, 0))], news((6, 0)))
        self.assert_like([news((5, 0)), news((5, 1))], news((4, 0)))

    def test_other_roots_do_not_contradict(self):
        self.assert_like([news((9, 0)), news((9, 0), None, 1, (3, 0), ALL)], news((5, 0), (4, 0), 2, (1, 0), OTHER))


class ToldTest(DeskTest):
    def test_a_root_without_a_cancellation(self):
        desk = self.desk(news((2, 0)))
        self.assertEqual(desk.told(0), [((2, 0), "cancelled", ()), ((7, 0), "completed", (1,))])
        self.assertEqual(desk.foretold(0), predict(RACE, (0,), (0, 0), None))
        desk.hear(news((7, 0)))
        self.assertEqual(desk.told(0), [((7, 0), "completed", (1,))])
        self.assertEqual(desk.clock(0), (7, 0))

    def test_a_root_with_a_cancellation(self):
        for cancelled, row in (((3, 0), ("cancelled", ())), ((6, 5), ("cancelled", ())), ((7, 0), ("completed", (1,)))):
            desk = self.desk(news((2, 0)), news((9, 0), cancelled))
            self.assertEqual(desk.told(0), [(cancelled, *row)])
            self.assertEqual(desk.foretold(0), predict(RACE, (0,), (0, 0), cancelled))

    def test_a_root_that_starts_behind_the_clock(self):
        desk = self.desk(news((2, 0), None, 3, (5, 1)))
        self.assertEqual(desk.told(3), outlook(RACE, (5, 1), (5, 1)))
        self.assertEqual(desk.foretold(3), predict(RACE, (3,), (5, 1), None))
        self.assertEqual(desk.clock(3), (2, 0))

    def test_the_path_is_that_of_the_root(self):
        desk = self.desk(news((20, 0), (5, 0), 6, (1, 0), ALL))
        self.assertEqual(desk.foretold(6), predict(ALL, (6,), (1, 0), (5, 0)))
        self.assertEqual(desk.foretold(6)[3][0][0], (6,))

    def test_what_is_told_is_by_the_latest_clock(self):
        dice = random.Random(61)
        for plan in random_plans(61, 40, 3):
            start = (3, dice.randrange(2))
            clocks = [(dice.randrange(3, 20), dice.randrange(3)) for _ in range(4)]
            desk = Desk()
            for many, clock in enumerate(clocks):
                desk.hear(news(clock, None, 1, start, plan))
                latest = max(clocks[:many + 1])
                self.assertEqual(desk.clock(1), latest)
                self.assertEqual(desk.told(1), outlook(plan, start, max(latest, start)))

    def test_true_news_in_any_order(self):
        dice = random.Random(62)
        for _ in range(60):
            told, scheduler = self.true_news(dice)
            heard = dice.choices(told, k=2 * len(told))
            desk, known = Desk(), []
            for one in heard:
                self.assertIs(desk.hear(one), self.is_new(one, known))
                known.append(one)
                self.assert_true(desk, known, scheduler)

    def true_news(self, dice):
        """News of one to three roots at several clocks, and the scheduler that has run them to their ends."""
        plans = random_plans(dice.randrange(10000), 3, 3)
        scheduler, told = Scheduler(1000), []
        for _ in range(12):
            what = dice.choice(("spawn", "cancel", "run", "run", "run"))
            if what == "spawn" and scheduler.root_count() < 3:
                scheduler.spawn(dice.choice(plans))
            elif what == "cancel" and scheduler.root_count() > 0:
                scheduler.cancel(dice.randrange(scheduler.root_count()))
            elif what == "run":
                scheduler.run(dice.choice((0, 1, 1, 2, 4)), [dice.randrange(9)])
            told.extend([one for one in news_of(scheduler) if one[0] == "root"])
        for _ in range(3):
            scheduler.run(1000, [])
        scheduler.spawn(RACE)
        return told + [one for one in news_of(scheduler) if one[0] == "root"], scheduler

    def is_new(self, one, known):
        """Whether news are new behind those that are known, asked as point 61 asks it."""
        same = [other for other in known if other[1] == one[1]]
        if not same:
            return True
        untold = one[4] is not None and all(other[4] is None for other in same)
        return untold or one[5] > max(other[5] for other in same)

    def assert_true(self, desk, known, scheduler):
        roots = sorted({one[1] for one in known})
        self.assertEqual(desk.roots(), roots)
        for root in roots:
            plan, start, cancelled = scheduler.plan(root), scheduler.started(root), scheduler.cancelled(root)
            heard = [one[4] for one in known if one[1] == root and one[4] is not None]
            self.assertEqual(desk.foretold(root), predict(plan, (root,), start, heard[0] if heard else None))
            rows = desk.told(root)
            if cancelled is not None:
                rows = [row for row in rows if row[0] <= cancelled]
            self.assertEqual(rows[-1][1:], end_of(plan, start, cancelled)[1:])
            if heard:
                self.assertEqual(desk.told(root), [(cancelled, *end_of(plan, start, cancelled)[1:])])


if __name__ == "__main__":
    unittest.main()
