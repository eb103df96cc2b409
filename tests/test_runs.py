"""[7], [8]: runs, remnants, and what can be cleared."""

from itertools import product

import unittest

from noneleft.books import Book, fitting
from noneleft.errors import InvalidCrowd, InvalidRun, Refused
from noneleft.runs import all_ends, clearing_run, crowd_of, first_run, is_clearable, left_by, run_between
from refusals import Refusals
from trial import NO_NUMBERS, NO_SEQUENCES, Trial, added, crowds_up_to, is_plain, total, unit, within, without

PAIRS = Book(2, [(0, 3), (1, 1), (3, 0)])
UNSAFE = Book(2, [(1, 1), (2, 0)])
NONE = Book(2, [])
SIX = Book(6, [unit(6, 0), (0, 1, 1, 0, 0, 0), (0, 0, 2, 0, 1, 0), (1, 1, 1, 1, 1, 1), (0, 0, 0, 2, 0, 2),
               (0, 3, 0, 0, 0, 5)])
SMALL = (PAIRS, UNSAFE, NONE, Book(1, [(2,), (3,)]), Book(1, [(8,)]), Book(1, []), Book(2, [(2, 1), (1, 2), (0, 4)]),
         Book(3, [(1, 1, 0), (0, 1, 1), (1, 0, 1), (2, 2, 2)]), Book(3, [(0, 0, 2), (1, 2, 0), (1, 2, 2), (3, 0, 1)]))
# Twelve batches, some of eight members, some that hold others.
TWELVE = Book(3, [(0, 0, 8), (0, 1, 3), (0, 2, 0), (0, 4, 4), (1, 0, 2), (1, 1, 1), (2, 0, 5), (2, 2, 2), (2, 3, 3),
                  (3, 1, 0), (4, 4, 0), (8, 0, 0)])
# Any value as a run.
WRONG_RUNS = NO_SEQUENCES


class LeftBy(Refusals):

    def test_runs(self):
        self.same(left_by(PAIRS, (3, 3), (0, 2)), (0, 0))
        self.same(left_by(PAIRS, (3, 3), (1,)), (2, 2))
        self.same(left_by(PAIRS, [4, 5], [1, 0, 2]), (0, 1))
        self.same(left_by(book=PAIRS, crowd=(4, 5), run=[2, 0, 1]), (0, 1))
        self.same(left_by(PAIRS, [4, 5], ()), (4, 5))
        self.same(left_by(NONE, (4, 5), []), (4, 5))

    def test_long_runs_and_crowds_of_any_size(self):
        self.same(left_by(PAIRS, (10 ** 30, 5000), (1,) * 5000 + (2,) * 5000), (10 ** 30 - 20000, 0))
        self.refused(InvalidRun, 5000, left_by, PAIRS, (10 ** 30, 5000), [1] * 5000 + [0] + [2] * 4999)

    def test_the_first_wrong_entry(self):
        self.refused(InvalidRun, 2, left_by, PAIRS, (3, 3), (1, 1, 2, 9))
        self.refused(InvalidRun, 1, left_by, PAIRS, (3, 2), (2, 2))
        self.refused(InvalidRun, 0, left_by, PAIRS, (2, 2), (0, True))
        self.refused(InvalidRun, 1, left_by, PAIRS, (3, 3), (1, 3, 0))
        self.refused(InvalidRun, 0, left_by, NONE, (3, 3), (0,))
        for entry in NO_NUMBERS + (3, 10 ** 20):
            for many in range(3):
                self.refused(InvalidRun, many, left_by, PAIRS, (9, 9), [1] * many + [entry, 1])

    def test_no_sequence(self):
        for run in WRONG_RUNS:
            self.refused(InvalidRun, 0, left_by, PAIRS, (3, 3), run)

    def test_the_crowd_comes_first(self):
        for run in (None, [7], (0, 0, 0, 0)):
            self.refused(InvalidCrowd, 1, left_by, PAIRS, (3, True), run)
            self.refused(InvalidCrowd, 2, left_by, PAIRS, None, run)

    def test_arguments_stay(self):
        crowd, run = [3, 3], [1, 1]
        left_by(PAIRS, crowd, run)
        self.assertEqual((crowd, run), ([3, 3], [1, 1]))


class AllEnds(Refusals):

    def test_examples(self):
        self.same(all_ends(PAIRS, (3, 3)), ((0, 0),))
        self.same(all_ends(UNSAFE, (2, 2)), ((0, 0), (0, 2)))
        self.same(all_ends(UNSAFE, [2, 2]), ((0, 0), (0, 2)))
        self.same(all_ends(book=UNSAFE, crowd=(0, 0)), ((0, 0),))
        self.same(all_ends(NONE, (2, 9)), ((2, 9),))

    def test_each_crowd(self):
        for book in SMALL:
            trial = Trial(book)
            for crowd in crowds_up_to(book.kinds, {1: 12, 2: 8, 3: 6}[book.kinds]):
                self.same(all_ends(book, crowd), tuple(sorted(trial.ends(crowd))))

    def test_six_kinds_and_twelve_batches(self):
        for book, crowd in ((SIX, (2, 2, 2, 2, 2, 2)), (SIX, (1, 4, 2, 0, 0, 5)), (TWELVE, (4, 4, 4)),
                            (TWELVE, (8, 2, 2)), (TWELVE, (1, 3, 8)), (TWELVE, (2, 5, 5))):
            self.same(all_ends(book, crowd), tuple(sorted(Trial(book).ends(crowd))))

    def test_several_remnants_ascending(self):
        book = Book(3, [(1, 1, 0), (0, 1, 1), (1, 0, 1)])
        self.same(all_ends(book, (2, 2, 2)), ((0, 0, 0), (0, 0, 2), (0, 2, 0), (2, 0, 0)))
        self.same(all_ends(book, (2, 2, 1)), ((0, 0, 1), (0, 1, 0), (1, 0, 0)))
        self.same(all_ends(Book(1, [(4,), (6,), (7,)]), (11,)), ((0,), (1,), (3,)))

    def test_wrong_crowds(self):
        wrong_crowds(self, all_ends)


class FirstRun(Refusals):

    def test_runs(self):
        self.same(first_run(PAIRS, (3, 3)), (0, 2))
        self.same(first_run(PAIRS, [4, 4]), (0, 1, 2))
        self.same(first_run(PAIRS, (2, 1)), (1,))
        self.same(first_run(PAIRS, (0, 0)), ())
        self.same(first_run(NONE, (5, 5)), ())
        self.same(first_run(book=Book(1, [(2,), (3,)]), crowd=(9,)), (0, 0, 0, 0))

    def test_always_the_first_that_fits(self):
        for book in SMALL + (TWELVE,):
            for crowd in crowds_up_to(book.kinds, {1: 12, 2: 9, 3: 7}[book.kinds]):
                left, wanted = crowd, []
                while fitting(book, left):
                    wanted.append(fitting(book, left)[0])
                    left = without(left, book.batches[wanted[-1]])
                self.same(first_run(book, crowd), tuple(wanted))

    def test_long_runs(self):
        self.same(first_run(PAIRS, (10 ** 4, 2)), (1, 1) + (2,) * 3332)
        self.same(first_run(Book(1, [(3,), (7,)]), (29999,)), (0,) * 9999)
        self.same(first_run(Book(2, [(1, 10 ** 20)]), (10 ** 30, 4 * 10 ** 20 + 5)), (0,) * 4)

    def test_wrong_crowds(self):
        wrong_crowds(self, first_run)


class Clearing(Refusals):

    def test_examples(self):
        self.assertIs(is_clearable(PAIRS, (3, 3)), True)
        self.same(clearing_run(PAIRS, (4, 1)), (1, 2))
        self.assertIs(is_clearable(UNSAFE, (2, 2)), True)
        self.assertIs(is_clearable(UNSAFE, (0, 2)), False)
        self.assertIsNone(clearing_run(UNSAFE, (0, 2)))
        self.assertIs(is_clearable(book=PAIRS, crowd=[2, 1]), False)
        self.same(clearing_run(book=PAIRS, crowd=[4, 1]), (1, 2))

    def test_nobody_is_clearable(self):
        for book in SMALL + (SIX, TWELVE):
            self.assertIs(is_clearable(book, (0,) * book.kinds), True)
            self.same(clearing_run(book, [0] * book.kinds), ())
        self.assertIs(is_clearable(NONE, (0, 1)), False)
        self.assertIsNone(clearing_run(NONE, (1, 0)))

    def test_each_crowd(self):
        for book in SMALL:
            trial = Trial(book)
            for crowd in crowds_up_to(book.kinds, {1: 14, 2: 10, 3: 8}[book.kinds]):
                self.try_clearing(book, crowd, trial.clears(crowd))

    def test_six_kinds_and_twelve_batches(self):
        for crowd in product(range(3), repeat=6):
            if sum(crowd) in (5, 12):
                self.try_clearing(SIX, crowd, Trial(SIX).clears(crowd))
        trial = Trial(TWELVE)
        for crowd in crowds_up_to(3, 12):
            self.try_clearing(TWELVE, crowd, trial.clears(crowd))

    def try_clearing(self, book, crowd, wanted):
        self.assertIs(is_clearable(book, crowd), wanted)
        run = clearing_run(book, crowd)
        if not wanted:
            self.assertIsNone(run)
            return
        self.assertTrue(type(run) is tuple and is_plain(run))
        self.assertEqual(list(run), sorted(run))
        self.assertEqual(total(book.kinds, book.batches, run), crowd)

    def test_sums_of_clearable_crowds(self):
        for book in SMALL:
            cleared = [crowd for crowd in crowds_up_to(book.kinds, 4) if is_clearable(book, crowd)]
            for one in cleared:
                for other in cleared:
                    self.assertIs(is_clearable(book, added(one, other)), True)

    def test_wrong_crowds(self):
        wrong_crowds(self, is_clearable)
        wrong_crowds(self, clearing_run)


class RunBetween(Refusals):

    def test_runs(self):
        self.same(run_between(PAIRS, (2, 0), (2, 0)), ())
        self.same(run_between(UNSAFE, (2, 2), (0, 2)), (1,))
        self.same(run_between(UNSAFE, [2, 2], [0, 0]), (0, 0))
        self.same(run_between(book=NONE, crowd=(2, 2), remnant=[2, 2]), ())

    def test_each_remnant(self):
        for book in SMALL:
            trial = Trial(book)
            for crowd in crowds_up_to(book.kinds, {1: 12, 2: 6, 3: 4}[book.kinds]):
                for remnant in crowds_up_to(book.kinds, sum(crowd) + 1):
                    if remnant in trial.ends(crowd):
                        run = run_between(book, crowd, remnant)
                        self.assertTrue(type(run) is tuple and is_plain(run))
                        self.assertEqual(left_by(book, crowd, run), remnant)
                    else:
                        self.refused(Refused, 0, run_between, book, crowd, remnant)

    def test_no_such_remnant(self):
        self.refused(Refused, 0, run_between, PAIRS, (3, 3), (2, 2))
        self.refused(Refused, 0, run_between, PAIRS, (1, 1), (1, 1))
        self.refused(Refused, 0, run_between, UNSAFE, (2, 2), (0, 3))
        self.refused(Refused, 0, run_between, NONE, (2, 2), (2, 1))

    def test_wrong_crowds(self):
        for at, wrong in ((2, None), (2, (1,)), (0, (True, 1)), (1, [1, -1]), (3, (1, 2, 3, "4"))):
            self.refused(InvalidCrowd, at, run_between, PAIRS, wrong, (0, 0))
            self.refused(InvalidCrowd, at, run_between, PAIRS, (3, 3), wrong)
            self.refused(InvalidCrowd, at, run_between, PAIRS, wrong, (None, 0))
            self.refused(InvalidCrowd, at, run_between, PAIRS, (1, 1), wrong)
        self.refused(InvalidCrowd, 1, run_between, PAIRS, (1, None), (None, 1))


class CrowdOf(Refusals):

    def test_runs(self):
        self.same(crowd_of(PAIRS, (0, 1, 1, 2)), (5, 5))
        self.same(crowd_of(PAIRS, [2, 0, 2]), (6, 3))
        self.same(crowd_of(book=PAIRS, run=()), (0, 0))
        self.same(crowd_of(Book(6, []), []), (0, 0, 0, 0, 0, 0))
        self.same(crowd_of(PAIRS, (0, 2) * 5000), (15000, 15000))
        self.same(crowd_of(Book(1, [(10 ** 30,)]), (0,) * 10000), (10 ** 34,))

    def test_no_run(self):
        for run in WRONG_RUNS:
            self.refused(InvalidRun, 0, crowd_of, PAIRS, run)
        for entry in NO_NUMBERS + (3, 10 ** 20):
            for many in range(3):
                self.refused(InvalidRun, many, crowd_of, PAIRS, [2] * many + [entry, 1, entry])
                self.refused(InvalidRun, many, crowd_of, PAIRS, (0,) * many + (entry,))
        self.refused(InvalidRun, 0, crowd_of, NONE, (0,))

    def test_arguments_stay(self):
        run = [2, 0]
        crowd_of(PAIRS, run)
        self.assertEqual(run, [2, 0])


class StuckAndLeast(Refusals):

    def test_remnants_are_within_the_crowd_and_stuck(self):
        for crowd in crowds_up_to(2, 9):
            for left in all_ends(UNSAFE, crowd):
                self.assertTrue(within(left, crowd) and fitting(UNSAFE, left) == ())
                self.assertIs(is_clearable(UNSAFE, without(crowd, left)), True)


def wrong_crowds(case, function):
    """The function of a book and a crowd refuses wrong crowds, and leaves a list as it is."""
    for value in NO_SEQUENCES + ((), (1,), (1, 2, 3)):
        case.refused(InvalidCrowd, 2, function, PAIRS, value)
    for entry in NO_NUMBERS:
        case.refused(InvalidCrowd, 0, function, PAIRS, (entry, entry))
        case.refused(InvalidCrowd, 1, function, PAIRS, [1, entry])
        case.refused(InvalidCrowd, 3, function, PAIRS, [1, 2, 3, entry])
    crowd = [3, 3]
    function(PAIRS, crowd)
    case.assertEqual(crowd, [3, 3])


if __name__ == "__main__":
    unittest.main()
