"""[24], [25]: what can be left, told ahead, and crowds of any size."""

import random
import unittest

from noneleft.books import Book
from noneleft.court import is_safe, strange_crowd
from noneleft.errors import InvalidCrowd, NotSafe, Refused
from noneleft.remnants import counts_between, greedy_counts, tells_ends, told_remnants
from noneleft.runs import first_run
from noneleft.stuck import stuck_crowds
from noneleft.tables import is_nought, name_of
from refusals import Refusals
from samples import BALANCES, BOOKS, MIXED, NONE, PAIRS, TWELVE, UNSAFE
from test_court import SAFE, WRONG
from test_stuck import BOUNDED, UNBOUNDED
from trial import (NO_NUMBERS, NO_SEQUENCES, Trial, added, cleared, crowds_up_to, is_signed_sum, taken, unit, within,
                   without)

HUGE = 10 ** 18
FOURS_SIXES = Book(1, [(4,), (6,)])
THREE_KINDS = Book(3, [(6, 0, 0), (0, 6, 0), (0, 0, 4), (2, 2, 2)])


def is_bounded(book):
    return all(any(batch[kind] == sum(batch) for batch in book.batches) for kind in range(book.kinds))


def told_plainly(book, crowd):
    """All stuck crowds within the crowd from which it differs by a signed sum, ascending."""
    trial = Trial(book)
    most = [min(sum(batch) for batch in book.batches if batch[kind] == sum(batch)) for kind in range(book.kinds)]
    inner = [()]
    for number, limit in zip(crowd, most):
        inner = [left + (own,) for left in inner for own in range(min(number, limit - 1) + 1)]
    return tuple(left for left in inner if trial.is_stuck(left) and is_signed_sum(book.batches, without(crowd, left)))


class Told(Refusals):

    def test_examples(self):
        self.same(told_remnants(PAIRS, (3, 3)), ((0, 0),))
        self.same(told_remnants(book=PAIRS, crowd=[2, 0]), ((2, 0),))
        self.same(told_remnants(PAIRS, (HUGE, HUGE)), ((0, 0),))
        self.same(told_remnants(PAIRS, (HUGE, 0)), ((1, 0),))
        self.same(told_remnants(PAIRS, (HUGE, 2)), ((0, 1), (2, 0)))
        self.same(told_remnants(FOURS_SIXES, (HUGE,)), ((0,), (2,)))
        self.same(told_remnants(FOURS_SIXES, (1,)), ((1,),))
        self.same(told_remnants(FOURS_SIXES, (0,)), ((0,),))
        self.same(told_remnants(Book(1, [(1,)]), (HUGE,)), ((0,),))
        self.assertIs(tells_ends(PAIRS, (3, 3)), True)
        self.assertIs(tells_ends(book=FOURS_SIXES, crowd=[4]), False)
        self.assertIs(tells_ends(FOURS_SIXES, (HUGE,)), True)

    def test_each_small_crowd(self):
        for book in BOUNDED:
            trial = Trial(book)
            for crowd in crowds_up_to(book.kinds, {1: 25, 2: 9, 3: 6}.get(book.kinds, 3)):
                told = told_plainly(book, crowd)
                self.same(told_remnants(book, crowd), told)
                self.assertIs(tells_ends(book, crowd), told == tuple(sorted(trial.ends(crowd))), (book.batches, crowd))

    def test_crowds_of_middle_size(self):
        rng = random.Random(24)
        seen = set()
        for book in (THREE_KINDS, FOURS_SIXES, PAIRS, Book(2, [(8, 0), (5, 0), (0, 7), (2, 2)]), Book(2, [(6, 0), (0, 6), (2, 5)]),
                     Book(3, [(4, 0, 0), (0, 3, 0), (0, 0, 5), (1, 1, 0), (3, 0, 2)]), Book(2, [(5, 0), (0, 5), (1, 1)]),
                     Book(2, [(6, 0), (0, 4), (1, 2), (3, 3)])):
            trial = Trial(book)
            for _ in range(60):
                crowd = tuple(rng.choice((rng.randint(0, 6), rng.randint(6, 24))) for _ in range(book.kinds))
                told = told_remnants(book, crowd)
                wanted = told == tuple(sorted(trial.ends(crowd)))
                self.assertIs(tells_ends(book, crowd), wanted, (book.batches, crowd))
                self.assertTrue(set(told) >= trial.ends(crowd))
                seen.add(wanted)
        self.assertEqual(seen, {True, False})

    def test_one_huge_number(self):
        # What a huge number of a kind lets be left is what a number of the kind lets that never runs short.
        rng = random.Random(25)
        seen = set()
        for book, period in ((Book(2, [(8, 0), (5, 0), (0, 7), (2, 2)]), 5), (Book(2, [(6, 0), (0, 6), (2, 5)]), 6),
                             (THREE_KINDS, 6), (Book(2, [(4, 0), (0, 6), (1, 3)]), 4), (Book(2, [(6, 0), (0, 6), (2, 2)]), 6)):
            trial = Trial(book)
            for _ in range(20):
                small = tuple(rng.randint(0, 9) for _ in range(book.kinds - 1))
                first = HUGE - rng.randint(0, 20)
                crowd, like = (first,) + small, (42 + (first - 42) % period,) + small
                self.same(told_remnants(book, crowd), told_remnants(book, like))
                wanted = told_plainly(book, like) == tuple(sorted(trial.ends(like)))
                self.assertIs(tells_ends(book, crowd), wanted, (book.batches, crowd))
                seen.add(wanted)
        self.assertEqual(seen, {True, False})

    def test_safe_books(self):
        for book in SAFE:
            if is_bounded(book) and book.kinds < 6:
                for crowd in crowds_up_to(book.kinds, 5) + [(HUGE - 1,) * book.kinds, (HUGE,) * (book.kinds - 1) + (3,)]:
                    self.assertIs(tells_ends(book, crowd), True)

    def test_strange_crowds(self):
        tried = 0
        for book in WRONG:
            if is_bounded(book):
                strange = strange_crowd(book)
                self.assertIs(tells_ends(book, strange), False)
                self.same(told_remnants(book, strange), ((0,) * book.kinds, strange))
                tried += 1
        self.assertTrue(tried > 2)

    def test_many_stuck_crowds(self):
        # 8 * 8 * 8 * 5 = 2560 names by the batches alone, and what mixes them.
        book = Book(4, [(8, 0, 0, 0), (0, 8, 0, 0), (0, 0, 8, 0), (0, 0, 0, 5), (1, 1, 1, 1), (3, 0, 2, 0), (0, 5, 0, 3)])
        for crowd in ((HUGE, HUGE + 1, HUGE + 2, HUGE + 3), (40, 30, 20, 10), (300, 5, 200, 7)):
            told = told_remnants(book, crowd)
            for left in told:
                self.assertTrue(within(left, crowd) and left in stuck_crowds(book, sum(left)))
                self.assertTrue(is_nought(book, without(crowd, left)))
            self.assertIs(type(tells_ends(book, crowd)), bool)
        self.assertIs(tells_ends(book, (HUGE,) * 4), True)
        self.assertIs(tells_ends(TWELVE, (HUGE,) * 4), True)

    def test_refusals(self):
        for function in (told_remnants, tells_ends):
            for book in UNBOUNDED:
                self.refused(Refused, 0, function, book, (1,) * book.kinds)
                for value in (None, (-1,) * book.kinds, (1,) * (book.kinds + 1)):
                    self.refused(Refused, 0, function, book, value)
            for value in NO_SEQUENCES:
                self.refused(InvalidCrowd, 2, function, PAIRS, value)
            for value in NO_NUMBERS:
                self.refused(InvalidCrowd, 1, function, PAIRS, (0, value))
                self.refused(InvalidCrowd, 0, function, PAIRS, [value, -1])
            self.refused(InvalidCrowd, 2, function, PAIRS, (1,))
            self.refused(InvalidCrowd, 2, function, PAIRS, (1, 1, 1))


class AnySize(Refusals):

    def test_greedy_counts(self):
        self.same(greedy_counts(PAIRS, (3, 3)), ((1, 0, 1), (0, 0)))
        self.same(greedy_counts(PAIRS, [HUGE, HUGE]), ((HUGE // 3, 1, HUGE // 3), (0, 0)))
        self.same(greedy_counts(book=PAIRS, crowd=(HUGE, 0)), ((0, 0, HUGE // 3), (1, 0)))
        self.same(greedy_counts(UNSAFE, (HUGE, HUGE - 3)), ((HUGE - 3, 1), (1, 0)))
        self.same(greedy_counts(NONE, (5, HUGE)), ((), (5, HUGE)))
        for book in BOOKS:
            for crowd in crowds_up_to(book.kinds, {1: 20, 2: 9, 3: 6}.get(book.kinds, 3)) + [(HUGE - 7,) * book.kinds]:
                counts, left = greedy_counts(book, crowd)
                self.assertEqual(len(counts), len(book.batches))
                self.assertEqual(added(cleared(book, counts), left), crowd)
                self.assertEqual(name_of(book, left), name_of(book, crowd))
                before = crowd
                for batch, number in zip(book.batches, counts):
                    before = without(before, taken(number, batch))
                    self.assertFalse(within(batch, before))
                if sum(crowd) < 30:
                    run = first_run(book, crowd)
                    self.assertEqual(counts, tuple(run.count(at) for at in range(len(book.batches))))

    def test_greedy_counts_in_safe_books(self):
        for book in SAFE:
            for crowd in crowds_up_to(book.kinds, {1: 20, 2: 9, 3: 6}.get(book.kinds, 3)) + [(HUGE - 7,) * book.kinds]:
                self.assertEqual(any(greedy_counts(book, crowd)[1]), not is_nought(book, crowd))

    def test_counts_between_small_crowds(self):
        for book in SAFE:
            if book.kinds > 3:
                continue
            trial = Trial(book)
            crowds = crowds_up_to(book.kinds, {1: 9, 2: 6, 3: 4}[book.kinds])
            for crowd in crowds:
                for remnant in crowds:
                    if remnant in trial.ends(crowd):
                        counts = counts_between(book, crowd, remnant)
                        self.assertTrue(type(counts) is tuple and len(counts) == len(book.batches))
                        self.assertTrue(all(type(number) is int and number >= 0 for number in counts))
                        self.assertEqual(added(cleared(book, counts), remnant), crowd)
                    else:
                        self.refused(Refused, 0, counts_between, book, crowd, remnant)

    def test_counts_between_huge_crowds(self):
        for crowd, remnant in (((HUGE, HUGE), (0, 0)), ((HUGE, 2), (2, 0)), ((HUGE, 2), (0, 1)), ((HUGE - 1, 0), (0, 0))):
            counts = counts_between(book=PAIRS, crowd=list(crowd), remnant=list(remnant))
            self.assertEqual(added(cleared(PAIRS, counts), remnant), crowd)
        self.refused(Refused, 0, counts_between, PAIRS, (HUGE, 2), (0, 0))
        self.refused(Refused, 0, counts_between, PAIRS, (HUGE, 2), (3, 2))
        self.refused(Refused, 0, counts_between, PAIRS, (HUGE, 2), (0, 4))
        self.assertEqual(added(cleared(BALANCES, counts_between(BALANCES, (HUGE, 5, HUGE), (HUGE - 5, 0, HUGE - 5))),
                               (HUGE - 5, 0, HUGE - 5)), (HUGE, 5, HUGE))
        self.same(counts_between(MIXED, (HUGE, HUGE), (HUGE - HUGE // 2, 0)), (HUGE // 4,))
        self.refused(Refused, 0, counts_between, MIXED, (HUGE, HUGE), (HUGE, HUGE))
        self.same(counts_between(NONE, (HUGE, 1), (HUGE, 1)), ())
        self.refused(Refused, 0, counts_between, NONE, (HUGE, 1), (HUGE, 0))
        for book in SAFE:
            crowd = tuple(HUGE - 5 * kind for kind in range(book.kinds))
            left = greedy_counts(book, crowd)[1]
            self.assertEqual(added(cleared(book, counts_between(book, crowd, left)), left), crowd)

    def test_refusals(self):
        for book in WRONG:
            self.assertFalse(is_safe(book))
            for crowd, remnant in (((0,) * book.kinds,) * 2, (None, None), (unit(book.kinds, 0), (-1,)), ((), 3)):
                self.refused(NotSafe, 0, counts_between, book, crowd, remnant)
        for value in NO_SEQUENCES:
            self.refused(InvalidCrowd, 2, counts_between, PAIRS, value, (1, None))
            self.refused(InvalidCrowd, 2, counts_between, PAIRS, (3, 3), value)
            self.refused(InvalidCrowd, 2, greedy_counts, PAIRS, value)
        for value in NO_NUMBERS:
            self.refused(InvalidCrowd, 1, counts_between, PAIRS, (3, value), (value, 0))
            self.refused(InvalidCrowd, 0, counts_between, PAIRS, (3, 3), (value, 0))
            self.refused(InvalidCrowd, 0, greedy_counts, PAIRS, (value, value))
        self.refused(InvalidCrowd, 2, counts_between, PAIRS, (3, 3), (0, 0, 0))
        self.refused(InvalidCrowd, 2, greedy_counts, PAIRS, ())


if __name__ == "__main__":
    unittest.main()
