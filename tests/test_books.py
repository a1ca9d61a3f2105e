"""Point 60: books and the effects that they take."""

import random
import unittest

from asforetold.books import Book
from asforetold.errors import UnlikeEffects

EFFECTS = [
    ("effect", (0,), 5, (4, 0)),
    ("effect", (0, 0, 0), 0, (0, 0)),
    ("effect", (0, 0, 1), 5, (4, 0)),
    ("effect", (0, 1, 0), 999, (12, 3)),
    ("effect", (1, 0, 0), 0, (0, 0)),
    ("effect", (2,), 7, (4, 2)),
]


class BookTest(unittest.TestCase):
    def test_a_new_book(self):
        self.assertEqual(Book().effects(), [])

    def test_effects_are_new_once(self):
        book = Book()
        for many, effect in enumerate(EFFECTS):
            self.assertIs(book.take(effect), True)
            for known in EFFECTS[:many + 1]:
                self.assertIs(book.take(known), False)
            self.assertEqual(book.effects(), EFFECTS[:many + 1])

    def test_effects_in_any_order(self):
        dice = random.Random(60)
        for _ in range(50):
            book, taken = Book(), []
            for effect in dice.choices(EFFECTS, k=dice.randrange(20)):
                self.assertIs(book.take(effect), effect not in taken)
                taken.append(effect)
                self.assertEqual(book.effects(), [one for one in EFFECTS if one in taken])

    def test_paths_are_ordered_as_tuples(self):
        book = Book()
        for path in ((10,), (2, 0, 0), (2,), (0, 10, 0), (0, 9, 1)):
            book.take(("effect", path, 1, (1, 0)))
        paths = [effect[1] for effect in book.effects()]
        self.assertEqual(paths, [(0, 9, 1), (0, 10, 0), (2,), (2, 0, 0), (10,)])

    def test_other_effects_of_a_path(self):
        book = Book()
        for effect in EFFECTS:
            book.take(effect)
            word, path, value, (time, turn) = effect
            for other in (
                (word, path, value + 1, (time, turn)), (word, path, value, (time + 1, turn)),
                (word, path, value, (time, turn + 1)), (word, path, 55, (77, 7)),
            ):
                self.assertRaises(UnlikeEffects, book.take, other)
                self.assertIs(book.take(effect), False)
        self.assertEqual(book.effects(), EFFECTS)

    def test_lists_that_are_handed_out_are_new(self):
        book = Book()
        for effect in EFFECTS[:2]:
            book.take(effect)
        spoilt = book.effects()
        spoilt.pop()
        spoilt[0] = None
        book.effects().clear()
        self.assertEqual(book.effects(), EFFECTS[:2])
        self.assertIs(book.take(EFFECTS[0]), False)

    def test_books_are_apart(self):
        one, other = Book(), Book()
        one.take(EFFECTS[0])
        self.assertEqual(other.effects(), [])
        self.assertIs(other.take(("effect", (0,), 6, (4, 0))), True)


if __name__ == "__main__":
    unittest.main()
