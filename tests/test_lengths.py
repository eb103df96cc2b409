"""[30]: the lengths of runs."""

import unittest

from noneleft.books import Book
from noneleft.court import is_safe
from noneleft.errors import InvalidCrowd
from noneleft.lengths import clearing_lengths, clearing_of_length, ending_lengths, ending_of_length
from refusals import Refusals
from samples import BOOKS, NONE, PAIRS, SIX, UNSAFE
from trial import NO_NUMBERS, NO_SEQUENCES, Trial, crowds_up_to, is_ending_run, total

MANY = Book(6, [(1, 1, 1, 1, 1, 1), (2, 0, 2, 0, 0, 0), (0, 1, 0, 2, 0, 0), (0, 0, 0, 0, 1, 2), (1, 0, 0, 0, 0, 0),
                (0, 1, 0, 1, 0, 0), (0, 0, 0, 1, 1, 1), (2, 2, 2, 2, 0, 0), (0, 0, 0, 0, 0, 1)])


class Lengths(Refusals):

    def test_examples(self):
        self.same(clearing_lengths(PAIRS, (3, 3)), (2, 3))
        self.same(clearing_lengths(book=PAIRS, crowd=[1, 0]), ())
        self.same(ending_lengths(UNSAFE, (2, 2)), (1, 2))
        self.same(ending_lengths(book=UNSAFE, crowd=[2, 2]), (1, 2))
        self.same(clearing_lengths(UNSAFE, (2, 2)), (2,))
        self.same(clearing_of_length(book=UNSAFE, crowd=[2, 2], length=2), (0, 0))
        self.same(ending_of_length(book=UNSAFE, crowd=[2, 2], length=1), (1,))
        self.assertIsNone(clearing_of_length(UNSAFE, (2, 2), 1))
        self.assertIsNone(ending_of_length(UNSAFE, (2, 2), 3))

    def test_nobody_and_no_batches(self):
        for book in BOOKS:
            nobody = (0,) * book.kinds
            self.same(clearing_lengths(book, nobody), (0,))
            self.same(ending_lengths(book, nobody), (0,))
            self.same(clearing_of_length(book, nobody, 0), ())
            self.same(ending_of_length(book, nobody, 0), ())
            self.assertIsNone(ending_of_length(book, nobody, 1))
        self.same(clearing_lengths(NONE, (6, 6)), ())
        self.same(ending_lengths(NONE, (6, 6)), (0,))
        self.same(ending_of_length(NONE, (6, 6), 0), ())
        self.assertIsNone(clearing_of_length(NONE, (6, 6), 0))

    def test_each_small_crowd(self):
        for book in BOOKS:
            for crowd in crowds_up_to(book.kinds, {1: 20, 2: 9, 3: 6}.get(book.kinds, 3)):
                self.try_crowd(book, crowd)

    def test_twelve_members(self):
        for crowd in ((2, 2, 2, 2, 2, 2), (1, 3, 2, 2, 1, 3), (4, 0, 4, 0, 2, 2), (0, 6, 0, 0, 0, 6), (12, 0, 0, 0, 0, 0)):
            self.try_crowd(MANY, crowd)
            self.try_crowd(SIX, crowd)
        self.same(clearing_lengths(Book(1, [(1,), (2,)]), (12,)), (6, 7, 8, 9, 10, 11, 12))
        self.same(clearing_lengths(Book(1, [(1,), (8,)]), (12,)), (5, 12))

    def try_crowd(self, book, crowd):
        outcomes = Trial(book).outcomes(crowd)
        ending = tuple(sorted({length for length, _ in outcomes}))
        clearing = tuple(sorted({length for length, left in outcomes if not any(left)}))
        self.same(clearing_lengths(book, crowd), clearing)
        self.same(ending_lengths(book, list(crowd)), ending)
        for length in range(sum(crowd) + 2):
            run = clearing_of_length(book, crowd, length)
            if length in clearing:
                self.assertTrue(is_ending_run(book, crowd, run) and len(run) == length, (book.batches, crowd, run))
                self.assertEqual(total(book.kinds, book.batches, run), crowd)
            else:
                self.assertIsNone(run)
            run = ending_of_length(book, crowd, length)
            if length in ending:
                self.assertTrue(is_ending_run(book, crowd, run) and len(run) == length, (book.batches, crowd, run))
            else:
                self.assertIsNone(run)

    def test_facts(self):
        for book in BOOKS:
            if book.kinds < 4 and all(sum(batch) < 7 for batch in book.batches):
                trial = Trial(book)
                for crowd in crowds_up_to(book.kinds, {1: 12, 2: 8, 3: 5}[book.kinds]):
                    fewest_gone = sum(crowd) - max(sum(left) for left in trial.ends(crowd))
                    self.assertLessEqual(max(ending_lengths(book, crowd)), fewest_gone)
                    if trial.clears(crowd) and is_safe(book):
                        self.assertEqual(ending_lengths(book, crowd), clearing_lengths(book, crowd))

    def test_any_length(self):
        for function in (clearing_of_length, ending_of_length):
            for value in NO_NUMBERS + (2.0, 10 ** 30, "2", (2,)):
                self.assertIsNone(function(PAIRS, (3, 3), value), value)
                self.assertIsNone(function(PAIRS, (1, 1), value), value)
                self.assertIsNone(function(NONE, (0, 0), value), value)

    def test_refusals(self):
        for function, more in ((clearing_lengths, ()), (ending_lengths, ()), (clearing_of_length, (None,)),
                               (ending_of_length, (2,)), (ending_of_length, (-1,))):
            for value in NO_SEQUENCES:
                self.refused(InvalidCrowd, 2, function, PAIRS, value, *more)
            for value in NO_NUMBERS:
                self.refused(InvalidCrowd, 0, function, PAIRS, (value, value), *more)
                self.refused(InvalidCrowd, 1, function, NONE, [1, value], *more)
            for value in ((), (1,), (1, 1, 1), [1]):
                self.refused(InvalidCrowd, 2, function, PAIRS, value, *more)


if __name__ == "__main__":
    unittest.main()
