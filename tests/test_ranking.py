"""[42]: the crowds of a size and a name in order."""

import unittest

from noneleft.books import Book
from noneleft.counting import count_named
from noneleft.errors import InvalidCrowd, Refused
from noneleft.ranking import crowd_at, index_of, next_named
from noneleft.tables import name_of
from refusals import Refusals
from samples import BALANCES, BOOKS, CLOCKS, EIGHTS, MIXED, NONE, PAIRS, SIX, TWO_OF_EACH, UNSAFE
from trial import NO_INTEGERS, NO_NUMBERS, NO_SEQUENCES, crowds_of_size, taken

# At most 200 names, so for all sizes up to 60; of the last one just 200.
FEW_NAMES = (PAIRS, CLOCKS, Book(1, [(6,)]), Book(1, [(1,)]), Book(2, [(0, 1), (5, 0)]), Book(3, [(2, 0, 0), (0, 2, 0), (0, 0, 2)]),
             Book(3, [(1, 1, 0), (0, 1, 1), (1, 0, 1)]), Book(4, [(1, 1, 0, 0), (0, 0, 2, 0), (0, 0, 0, 3), (4, 0, 0, 0)]),
             Book(6, [(1, 1, 0, 0, 0, 0), (0, 1, 1, 0, 0, 0), (0, 0, 1, 1, 0, 0), (0, 0, 0, 1, 1, 0), (0, 0, 0, 0, 1, 1), (8, 0, 0, 0, 0, 0)]),
             Book(4, [(8, 0, 0, 0), (0, 5, 0, 0), (0, 0, 5, 0), (0, 0, 0, 1)]))


def named(book, size, row):
    """All crowds of this size that are named as the row, ascending, one by one."""
    name = name_of(book, row)
    return [crowd for crowd in crowds_of_size(book.kinds, size) if name_of(book, crowd) == name]


class InOrder(Refusals):

    def test_examples(self):
        self.same(crowd_at(PAIRS, 3, (0, 0), 0), (0, 3))
        self.same(crowd_at(book=PAIRS, size=3, row=[0, 0], index=1), (3, 0))
        self.same(crowd_at(PAIRS, 4, (-3, 3), 0), (2, 2))
        self.same(index_of(PAIRS, (3, 0)), 1)
        self.same(index_of(book=PAIRS, crowd=[3, 3]), 1)
        self.same(next_named(PAIRS, (0, 3)), (3, 0))
        self.same(next_named(book=PAIRS, crowd=[0, 6]), (3, 3))
        self.assertIsNone(next_named(PAIRS, (3, 0)))
        self.same(crowd_at(PAIRS, 0, (0, 0), 0), (0, 0))
        self.same(index_of(PAIRS, (0, 0)), 0)
        self.assertIsNone(next_named(PAIRS, (0, 0)))
        self.assertIsNone(next_named(Book(1, [(2,)]), (60,)))
        self.same(crowd_at(Book(1, []), 12, (12,), 0), (12,))

    def test_small_sizes_of_each_book(self):
        for book in BOOKS:
            for size in range({1: 13, 2: 13, 3: 7, 4: 5}.get(book.kinds, 4)):
                self.try_size(book, size)

    def try_size(self, book, size):
        """Each crowd of this size against a list of those with its name."""
        lists = {}
        for crowd in crowds_of_size(book.kinds, size):
            lists.setdefault(name_of(book, crowd), []).append(crowd)
        for name, crowds in lists.items():
            for index, crowd in enumerate(crowds):
                self.same(crowd_at(book, size, name, index), crowd)
                self.same(index_of(book, crowd), index)
                self.same(next_named(book, crowd), (crowds + [None])[index + 1])
            for index in (len(crowds), len(crowds) + 1, 10 ** 20):
                self.refused(Refused, len(crowds), crowd_at, book, size, name, index)

    def test_twelve_members_by_names_without_end(self):
        for book, row in ((Book(6, []), (2,) * 6), (SIX, (0,) * 6), (EIGHTS, (4,) + (0,) * 5), (TWO_OF_EACH, (2, 4, 2, 4)),
                          (BALANCES, (4, 4, 4)), (MIXED, (4, 8)), (UNSAFE, (0, 0)), (NONE, (5, 7))):
            crowds = named(book, 12, row)
            self.assertEqual(len(crowds), count_named(book, 12, row))
            for index, crowd in enumerate(crowds):
                if index % (1 + len(crowds) // 20) == 0 or index == len(crowds) - 1:
                    self.same(crowd_at(book, 12, row, index), crowd)
                    self.same(index_of(book, crowd), index)
                    self.same(next_named(book, crowd), (crowds + [None])[index + 1])
            self.refused(Refused, len(crowds), crowd_at, book, 12, row, len(crowds))

    def test_sixty_members(self):
        for book in FEW_NAMES:
            row = taken(-7, (1,) * book.kinds)
            if book.kinds < 4:
                crowds = named(book, 60, row)
                some = range(0, len(crowds), 1 + len(crowds) // 30)
                self.assertEqual(count_named(book, 60, row), len(crowds))
                for index in some:
                    self.same(crowd_at(book, 60, row, index), crowds[index])
                    self.same(index_of(book, crowds[index]), index)
                    self.same(next_named(book, crowds[index]), (crowds + [None])[index + 1])
            many = count_named(book, 60, row)
            before = None
            for index in [many * part // 17 for part in range(17)] + [many - 1] if many else []:
                crowd = crowd_at(book, 60, row, index)
                self.assertEqual((sum(crowd), name_of(book, crowd)), (60, name_of(book, row)))
                self.same(index_of(book, crowd), index)
                self.assertTrue(before is None or before <= crowd)
                before = crowd
            if many:
                self.assertIsNone(next_named(book, before))
                self.same(next_named(book, crowd_at(book, 60, row, 0)), crowd_at(book, 60, row, 1) if many > 1 else None)
            self.refused(Refused, many, crowd_at, book, 60, row, many)

    def test_all_in_a_row(self):
        for book in (PAIRS, FEW_NAMES[6], FEW_NAMES[7]):
            for size in (6, 12):
                found = [crowd_at(book, size, (0,) * book.kinds, 0)]
                while next_named(book, found[-1]) is not None:
                    found.append(next_named(book, found[-1]))
                self.assertEqual(found, named(book, size, (0,) * book.kinds))

    def test_refusals(self):
        for value in NO_SEQUENCES:
            self.refused(InvalidCrowd, 2, crowd_at, PAIRS, 3, value, 0)
            self.refused(InvalidCrowd, 2, crowd_at, PAIRS, 3, value, None)
            self.refused(InvalidCrowd, 2, index_of, PAIRS, value)
            self.refused(InvalidCrowd, 2, next_named, PAIRS, value)
        for value in NO_NUMBERS:
            self.refused(Refused, 2, crowd_at, PAIRS, 3, (0, 0), value)
            self.refused(Refused, 0, crowd_at, PAIRS, 1, (0, 0), value)
            self.refused(InvalidCrowd, 1, index_of, PAIRS, (1, value))
            self.refused(InvalidCrowd, 0, next_named, PAIRS, [value, value])
        for value in NO_INTEGERS:
            # A row may have integers below 0, and comes ahead of the index.
            self.refused(InvalidCrowd, 1, crowd_at, PAIRS, 3, (-1, value), value)
        for crowd in ((), (1,), (1, 1, 1)):
            self.refused(InvalidCrowd, 2, crowd_at, PAIRS, 3, crowd, -1)
            self.refused(InvalidCrowd, 2, index_of, PAIRS, crowd)
            self.refused(InvalidCrowd, 2, next_named, PAIRS, crowd)
        self.refused(Refused, 2, crowd_at, PAIRS, 3, (0, 0), 2)
        self.refused(Refused, 0, crowd_at, PAIRS, 1, (0, 0), 0)
        self.refused(Refused, 1, crowd_at, PAIRS, 0, [0, 0], True)
        self.refused(Refused, 1, crowd_at, PAIRS, 0, [0, 0], False)
        self.refused(Refused, 0, crowd_at, Book(1, [(6,)]), 60, (1,), 0)

    def test_several_books(self):
        asked = [(book, size) for book in (PAIRS, CLOCKS, UNSAFE, NONE) for size in (3, 6, 12)]
        once = [[index_of(book, crowd) for crowd in crowds_of_size(2, size)] for book, size in asked]
        again = [[index_of(book, crowd) for crowd in crowds_of_size(2, size)] for book, size in asked[::-1]]
        self.assertEqual(once, again[::-1])


if __name__ == "__main__":
    unittest.main()
