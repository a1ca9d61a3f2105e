import unittest

from asforetold.errors import OutOfRange
from asforetold.instants import (
    ROUND_MOST, TIME_MOST, check_instant, earliest, later, next_instant, not_after,
)

RISING = ((0, 0), (0, 1), (0, 1000), (1, 0), (1, 2), (9, 999), (10, 0), (10, 1), (1000000, 0), (1000000, 1000))


class CheckTest(unittest.TestCase):
    def refused(self, name, *arguments, **more):
        with self.assertRaises(OutOfRange) as caught:
            check_instant(*arguments, **more)
        self.assertEqual(caught.exception.name, name)

    def test_most(self):
        self.assertEqual((TIME_MOST, ROUND_MOST), (1000000, 1000))

    def test_within_the_bounds(self):
        for instant in RISING + ((0, 1000), (1000000, 0), (500, 500)):
            self.assertIsNone(check_instant(instant))
            self.assertIsNone(check_instant(instant, "start"))
            self.assertIsNone(check_instant(instant, what="start"))

    def test_beyond_the_bounds(self):
        for instant in (
            (-1, 0), (1000001, 0), (0, -1), (0, 1001), (-1, 1000), (1000001, 1000), (1000000, -1), (1000000, 1001),
            (-1, -1), (1000001, 1001), (5, -1), (5, 1001),
        ):
            self.refused("instant", instant)
            self.refused("start", instant, "start")
            self.refused("cancel", instant, what="cancel")


class NextTest(unittest.TestCase):
    def test_next_instant(self):
        self.assertEqual(next_instant((0, 0)), (0, 1))
        self.assertEqual(next_instant((0, 1)), (0, 2))
        self.assertEqual(next_instant((7, 41)), (7, 42))

    def test_next_instant_beyond_the_bounds(self):
        self.assertEqual(next_instant((1000000, 1000)), (1000000, 1001))

    def test_nothing_is_between_an_instant_and_the_next_one(self):
        for instant in RISING:
            after = next_instant(instant)
            self.assertLess(instant, after)
            for other in RISING:
                self.assertFalse(instant < other < after)

    def test_later_with_no_ticks(self):
        for instant in RISING:
            self.assertEqual(later(instant, 0), instant)

    def test_later_with_ticks(self):
        self.assertEqual(later((0, 0), 1), (1, 0))
        self.assertEqual(later((0, 0), 1000), (1000, 0))
        self.assertEqual(later((7, 3), 1), (8, 0))
        self.assertEqual(later((7, 3), 1000), (1007, 0))
        self.assertEqual(later((999999, 1000), 1), (1000000, 0))

    def test_later_beyond_the_bounds(self):
        self.assertEqual(later((1000000, 5), 1), (1000001, 0))


class OrderTest(unittest.TestCase):
    def test_earliest_by_time_and_then_by_round(self):
        self.assertEqual(earliest((3, 9), (4, 0)), (3, 9))
        self.assertEqual(earliest((4, 0), (3, 9)), (3, 9))
        self.assertEqual(earliest((4, 1), (4, 2)), (4, 1))
        self.assertEqual(earliest((4, 2), (4, 1)), (4, 1))
        self.assertEqual(earliest((9, 0), (10, 0)), (9, 0))
        self.assertEqual(earliest((5, 5), (5, 5)), (5, 5))

    def test_earliest_with_never(self):
        self.assertEqual(earliest(None, (4, 1)), (4, 1))
        self.assertEqual(earliest((4, 1), None), (4, 1))
        self.assertEqual(earliest(None, (0, 0)), (0, 0))
        self.assertEqual(earliest((0, 0), None), (0, 0))
        self.assertIsNone(earliest(None, None))

    def test_not_after_by_time_and_then_by_round(self):
        self.assertIs(not_after((3, 9), (4, 0)), True)
        self.assertIs(not_after((4, 0), (3, 9)), False)
        self.assertIs(not_after((4, 1), (4, 2)), True)
        self.assertIs(not_after((4, 2), (4, 1)), False)
        self.assertIs(not_after((5, 5), (5, 5)), True)
        self.assertIs(not_after((10, 0), (9, 0)), False)

    def test_not_after_with_never(self):
        for instant in RISING:
            self.assertIs(not_after(instant, None), True)
            self.assertIs(not_after(None, instant), False)
        self.assertIs(not_after(None, None), True)

    def test_all_pairs(self):
        order = RISING + (None,)
        for i, one in enumerate(order):
            for j, two in enumerate(order):
                self.assertEqual(earliest(one, two), order[min(i, j)], (one, two))
                self.assertIs(not_after(one, two), i <= j, (one, two))


if __name__ == "__main__":
    unittest.main()
