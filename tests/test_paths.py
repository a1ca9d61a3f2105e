import copy
import itertools
import unittest

from asforetold.paths import child_path, is_above, is_below, read_path, write_path

NUMBERS = (0, 1, 7, 10, 99, 100, 65535, 999999, 1000000, 9999999)


def sample_paths():
    """Paths of one to seven numbers, small and large, and those that differ from them in one number."""
    paths = [(number,) for number in NUMBERS]
    for length in range(1, 8):
        for first in range(len(NUMBERS)):
            path = tuple([NUMBERS[(first + 3 * place) % len(NUMBERS)] for place in range(length)])
            paths.append(path)
            paths.extend([path[:place] + (5,) + path[place + 1:] for place in range(length)])
    return paths


class WriteTest(unittest.TestCase):
    def test_written_form(self):
        self.assertEqual(write_path((0, 2, 11)), "0.2.11")
        self.assertEqual(write_path((0,)), "0")
        self.assertEqual(write_path((7,)), "7")
        self.assertEqual(write_path((10, 0, 100, 0, 1000000)), "10.0.100.0.1000000")

    def test_numbers_of_any_length(self):
        self.assertEqual(write_path((3, 12345678, 0)), "3.12345678.0")

    def test_different_paths_are_written_differently(self):
        paths = set(sample_paths())
        self.assertEqual(len({write_path(path) for path in paths}), len(paths))


class ReadTest(unittest.TestCase):
    def test_the_written_form_is_read_back(self):
        for path in sample_paths():
            self.assertEqual(read_path(write_path(path)), path)

    def test_kinds(self):
        path = read_path("0.2.11")
        self.assertEqual(path, (0, 2, 11))
        self.assertIsInstance(path, tuple)
        self.assertEqual([type(number) for number in path], [int, int, int])

    def test_no_written_path(self):
        for text in (
            "", " ", "\n", ".", "..", "00", "01", "0.01", "00.1", "1.00", "1..2", ".1", "1.", "1.2.", ".1.2", "1.2..3",
            " 1", "1 ", "1 .2", "1. 2", "1.2\n", "\n1", "+1", "-1", "1.-2", "1,2", "1.2,3", "a", "1.a", "1a", "0x1",
            "1_0", "1e3", "(1, 2)", "1/2", "-", "1.2 3", "None",
        ):
            self.assertIsNone(read_path(text), text)

    def test_a_sign_put_anywhere(self):
        for at, sign in itertools.product(range(7), " \n,-+!a"):
            text = "0.2.11"
            self.assertIsNone(read_path(text[:at] + sign + text[at:]), (at, sign))

    def test_at_most_seven_digits(self):
        for before in ((), (0,), (3, 0, 12), (1, 2, 3, 4, 5, 6)):
            for number in (999999, 100000, 1000000, 9999999):
                self.assertEqual(read_path(write_path(before + (number,))), before + (number,))
            for number in (10000000, 99999999, 123456789, 10 ** 20):
                self.assertIsNone(read_path(write_path(before + (number,))))
                self.assertIsNone(read_path(write_path((number,) + before)))
        self.assertIsNone(read_path("0000001"))
        self.assertIsNone(read_path("00000001"))


class AboveTest(unittest.TestCase):
    def test_above(self):
        self.assertIs(is_above((0,), (0, 1)), True)
        self.assertIs(is_above((0,), (0, 0, 0, 5)), True)
        self.assertIs(is_above((3, 1), (3, 1, 0)), True)

    def test_not_above(self):
        for one, two in (
            ((0,), (0,)), ((0, 1), (0,)), ((0, 0), (0, 1, 0)), ((1,), (0, 1)), ((1,), (10, 0)), ((1,), (11,)),
            ((0, 1), (0, 10)), ((2, 1, 0), (2, 0, 1, 0)), ((2, 1), (1, 2, 1)), ((1, 2), (1,)),
        ):
            self.assertIs(is_above(one, two), False, (one, two))

    def test_a_path_comes_before_what_it_is_above(self):
        paths = sample_paths()
        for path in paths:
            for length in range(1, len(path)):
                self.assertTrue(is_above(path[:length], path))
                self.assertFalse(is_above(path, path[:length]))
                self.assertLess(path[:length], path)

    def test_paths_alike_but_for_one_number(self):
        for path in sample_paths():
            below = path + (0, 3)
            self.assertTrue(is_above(path, below))
            for place in range(len(path)):
                other = path[:place] + (path[place] + 1,) + path[place + 1:]
                self.assertFalse(is_above(other, below))
                self.assertFalse(is_above(path, other + (0, 3)))


class BelowTest(unittest.TestCase):
    def test_below_one_of_several(self):
        self.assertIs(is_below((0, 1), [(0,)]), True)
        self.assertIs(is_below((0, 1, 2), [(1,), (0, 1), (0, 1, 2)]), True)
        self.assertIs(is_below((0, 1), [(1,), (0, 1), (0, 1, 2), (0, 0)]), False)
        self.assertIs(is_below((0, 1), []), False)


class ChildTest(unittest.TestCase):
    def test_child(self):
        self.assertEqual(child_path((0,), 0, 0), (0, 0, 0))
        self.assertEqual(child_path((0,), 2, 5), (0, 2, 5))
        self.assertEqual(child_path((7, 1, 0), 0, 3), (7, 1, 0, 0, 3))
        self.assertIsInstance(child_path((0,), 1, 2), tuple)

    def test_children_are_below_and_of_odd_length(self):
        for path in ((0,), (5, 0, 1), (1, 2, 3, 4, 5)):
            for scope, part in itertools.product(range(3), range(6)):
                child = child_path(path, scope, part)
                self.assertTrue(is_above(path, child))
                self.assertTrue(is_above(path + (scope,), child))
                self.assertEqual(len(child) % 2, 1)

    def test_what_is_passed_stays_as_it_is(self):
        path = (3, 0, 1)
        kept = copy.deepcopy(path)
        child_path(path, 1, 1), write_path(path), is_above(path, path)
        self.assertEqual(path, kept)


if __name__ == "__main__":
    unittest.main()
