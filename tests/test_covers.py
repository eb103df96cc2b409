"""[16]: least covers."""

import unittest

from noneleft.books import Book
from noneleft.covers import is_least_cover, least_covers
from noneleft.errors import InvalidRun
from refusals import Refusals
from samples import BOOKS, NONE, PAIRS, SIX, UNSAFE
from trial import NO_NUMBERS, NOTHING, Trial, is_plain, near_misses, total, unit, without

# Eight batches of six members.
EIGHT = Book(3, [(0, 0, 6), (0, 6, 0), (1, 2, 3), (2, 2, 2), (3, 0, 3), (3, 3, 0), (4, 1, 1), (6, 0, 0)])
EIGHT_OF_SIX = Book(6, [tuple(6 * number for number in unit(6, kind)) for kind in range(6)]
                    + [(1, 1, 1, 1, 1, 1), (0, 1, 0, 2, 0, 3)])
TRIED = [book for book in BOOKS if all(sum(batch) < 7 for batch in book.batches)] + [EIGHT]


class LeastCovers(Refusals):

    def test_examples(self):
        self.same(least_covers(PAIRS, 0), ((0,), (1, 1, 1)))
        self.same(least_covers(PAIRS, 1), ((0, 2), (1,)))
        self.same(least_covers(book=PAIRS, batch=2), ((1, 1, 1), (2,)))
        self.same(least_covers(UNSAFE, 1), ((0, 0), (1,)))
        self.same(least_covers(UNSAFE, 0), ((0,),))
        self.same(least_covers(Book(1, [(2,), (3,), (6,)]), 2), ((0, 0, 0), (0, 0, 1), (1, 1), (2,)))

    def test_the_same_batch_several_times(self):
        self.same(least_covers(Book(1, [(1,), (6,)]), 1), ((0,) * 6, (1,)))
        self.same(least_covers(Book(2, [(0, 1), (1, 0), (3, 3)]), 2), ((0, 0, 0, 1, 1, 1), (2,)))

    def test_each_book(self):
        for book in TRIED:
            trial = Trial(book)
            for batch in range(len(book.batches)):
                self.same(least_covers(book, batch), trial.covers(batch))

    def test_eight_batches_of_six_members(self):
        self.same(least_covers(EIGHT_OF_SIX, 0), ((0,), (4, 4), (4, 6, 6, 6), (6,) * 6))
        found = least_covers(EIGHT_OF_SIX, EIGHT_OF_SIX.batches.index((1, 1, 1, 1, 1, 1)))
        self.assertEqual(list(found), sorted(set(found)))
        self.assertTrue(is_plain(found))
        self.assertIn((0, 1, 2, 3, 5, 7), found)
        for batch in range(8):
            for cover in least_covers(EIGHT_OF_SIX, batch):
                self.assertTrue(len(cover) <= 6)
                self.assertIs(is_least_cover(EIGHT_OF_SIX, batch, cover), True)

    def test_no_index(self):
        for batch in NO_NUMBERS + (3, 10 ** 20, (0,)):
            self.refused(InvalidRun, 0, least_covers, PAIRS, batch)
            self.refused(InvalidRun, 0, is_least_cover, PAIRS, batch, (0,))
            self.refused(InvalidRun, 0, is_least_cover, PAIRS, batch, None)
        self.refused(InvalidRun, 0, least_covers, NONE, 0)
        self.refused(InvalidRun, 0, is_least_cover, NONE, 0, ())


class IsLeastCover(Refusals):

    def test_right_values(self):
        for book in TRIED + [EIGHT_OF_SIX, SIX]:
            for batch in range(len(book.batches)):
                for cover in least_covers(book, batch):
                    self.assertIs(is_least_cover(book, batch, cover), True)
                    self.assertIs(is_least_cover(book=book, batch=batch, value=cover), True)

    def test_near_misses(self):
        for book in (PAIRS, UNSAFE, SIX, EIGHT):
            for batch in range(len(book.batches)):
                for cover in least_covers(book, batch):
                    for value in near_misses(cover):
                        self.assertIs(is_least_cover(book, batch, value), False, (book.batches, batch, value))
                    if cover != cover[::-1]:
                        self.assertIs(is_least_cover(book, batch, cover[::-1]), False)

    def test_wrong_values(self):
        for value in NOTHING + ((), (0,), (2,), (0, 1), (1, 1), (1, 2), (2, 0), (0, 0, 2), (0, 2, 2), (0, 2, 3), (-1, 1),
                                (3,), (10 ** 20,), (0, 3)):
            self.assertIs(is_least_cover(PAIRS, 1, value), False)

    def test_each_short_tuple(self):
        for book in (PAIRS, UNSAFE, Book(2, [(2, 1), (1, 2), (0, 4)])):
            many = len(book.batches)
            for batch in range(many):
                covers = Trial(book).covers(batch)
                tuples = [()]
                for _ in range(4):
                    for value in tuples:
                        self.assertIs(is_least_cover(book, batch, value), value in covers)
                    tuples = [value + (at,) for value in tuples for at in range(many)]

    def test_covers_leave_what_the_batch_does_not_need(self):
        for book in TRIED:
            for at, batch in enumerate(book.batches):
                for cover in least_covers(book, at):
                    left = without(total(book.kinds, book.batches, cover), batch)
                    self.assertTrue(min(left) >= 0)
                    self.assertTrue(len(cover) <= sum(batch))


if __name__ == "__main__":
    unittest.main()
