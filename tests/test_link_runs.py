"""Points 43, 54, 56, 58 and 60 to 63: whole links, which run to their ends through lost letters and cuts."""

import random
import unittest

from asforetold.errors import PowerCut
from asforetold.foretelling import end_of, predict
from asforetold.link import Link
from tests.trees import effects_of, random_plans, replayed, torn_ones


class Runner:
    """A link to which something is done at random, and all that its desks have told."""

    def __init__(self, dice):
        self.dice = dice
        self.desks = dice.randint(1, 3)
        self.plans = random_plans(dice.randrange(100000), 6, dice.choice((2, 3, 4)))
        self.grace = dice.choice((7, 100))
        self.link = Link(self.grace, self.desks, dice.choice((100, 200, 400)))
        # The deeds that were done, the one that was cut included until the house is opened again.
        self.deeds = []
        self.told = []
        self.cuts = 0

    def choices(self):
        return [self.dice.randrange(12) for _ in range(self.dice.randrange(5))]

    def act(self):
        """Do one thing, and open the house again if the power was cut by it."""
        name = self.dice.choice((
            "spawn", "spawn", "cancel", "advance", "advance", "advance", "sync", "sync", "post", "deliver", "deliver",
            "deliver", "deliver", "drop", "duplicate", "cut", "schedule", "reopen",
        ))
        try:
            getattr(self, name)()
        except PowerCut:
            self.cuts += 1
        while not self.link.is_open():
            if self.dice.random() < 0.3:
                self.deliver()
            try:
                self.reopen()
            except PowerCut:
                self.cuts += 1
        self.listen()

    def spawned(self):
        """How many roots there are, or would be if the last deed is not lost."""
        return len([deed for deed in self.deeds if deed[0] == "spawn"])

    def spawn(self):
        if self.spawned() < 6:
            plan = self.dice.choice(self.plans)
            self.deeds.append(("spawn", plan))
            self.link.spawn(plan)

    def cancel(self):
        if self.spawned() > 0:
            # A root that was spawned last is for the most part alive.
            root = max(self.dice.randrange(self.spawned()), self.dice.randrange(self.spawned()))
            self.deeds.append(("cancel", root))
            if not self.link.cancel(root):
                self.deeds.pop()

    def advance(self):
        ticks = self.dice.choice((0, 0, 1, 1, 2, 3, 6))
        self.deeds.append(("advance", ticks))
        self.link.advance(ticks, self.choices())

    def sync(self):
        self.link.sync()

    def post(self):
        if len(self.link.letters()) < 60:
            self.link.post()

    def deliver(self):
        self.pick(self.link.deliver)

    def drop(self):
        self.pick(self.link.drop)

    def duplicate(self):
        self.pick(self.link.duplicate)

    def pick(self, call):
        many = len(self.link.letters())
        if many > 0:
            call(self.dice.randrange(many))

    def cut(self):
        if self.dice.random() < 0.4:
            self.link.cut_power(torn_ones(self.dice))

    def schedule(self):
        self.link.schedule_cut(self.dice.randrange(30), torn_ones(self.dice))

    def reopen(self):
        many = self.link.reopen(self.choices())
        assert many <= len(self.deeds)
        self.deeds = self.deeds[:many]

    def listen(self):
        """Keep what a desk tells of a root."""
        desk = self.dice.randrange(self.desks)
        for root in self.link.desk_roots(desk):
            rows = self.link.told(desk, root)
            if (root, rows) not in self.told:
                self.told.append((root, rows))

    def finish(self):
        """Let everything run to its end, and deliver all news."""
        self.link.schedule_cut(100000, [])
        for _ in range(3):
            self.deeds.append(("advance", 1000))
            self.link.advance(1000, self.choices())
        self.link.sync()
        self.link.post()
        while self.link.letters():
            self.deliver()
        for desk in range(self.desks):
            for root in self.link.desk_roots(desk):
                self.told.append((root, self.link.told(desk, root)))


class WholeTest(unittest.TestCase):
    def assert_as_foretold(self, runner):
        """Each root has ended as its plan, its start and its cancellation tell, and so have all desks told."""
        link, effects = runner.link, []
        scheduler = replayed(runner.grace, runner.deeds)
        self.assertEqual(link.state(), scheduler.state())
        for root in range(scheduler.root_count()):
            plan, start, cancelled = scheduler.plan(root), scheduler.started(root), link.cancelled(root)
            prediction = predict(plan, (root,), start, cancelled)
            self.assertEqual((*link.completion(root), link.trace(root)), prediction)
            self.assertEqual(link.completion(root), end_of(plan, start, cancelled))
            for desk in range(runner.desks):
                self.assertEqual(link.foretold(desk, root), prediction)
                self.assertEqual(link.desk_clock(desk, root), link.clock())
            for rows in [rows for other, rows in runner.told if other == root]:
                # The instant of the cancellation lies in the last row that begins with it or before.
                there = [row for row in rows if cancelled is None or row[0] <= cancelled]
                self.assertEqual(there[-1][1:], prediction[1:3])
            effects.extend(effects_of(prediction[3]))
        self.assertEqual(link.effects(), effects)
        for desk in range(runner.desks):
            self.assertEqual(link.desk_roots(desk), list(range(scheduler.root_count())))

    def test_random_links(self):
        dice = random.Random(6262)
        roots = cancelled = cuts = told = effects = 0
        for _ in range(100):
            runner = Runner(dice)
            for _ in range(dice.choice((40, 80, 120))):
                runner.act()
            runner.finish()
            self.assert_as_foretold(runner)
            roots += runner.spawned()
            cancelled += len([root for root in range(runner.spawned()) if runner.link.cancelled(root) is not None])
            cuts += runner.cuts
            told += len(runner.told)
            effects += len(runner.link.effects())
        # What is random reaches what is to be tested.
        for many in (roots, cancelled, cuts, effects):
            self.assertGreater(many, 40)
        self.assertGreater(told, 500)


if __name__ == "__main__":
    unittest.main()
