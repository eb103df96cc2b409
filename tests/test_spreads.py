"""[33], [34]: how far lengths of runs can spread, and books in which all runs that end are equally long."""

import unittest
from fractions import Fraction
from itertools import product

from noneleft.books import Book
from noneleft.court import is_safe
from noneleft.errors import InvalidCrowd, Refused
from noneleft.spreads import is_spread_paper, is_unlike_lengths, spread, spread_paper, told_length, unlike_lengths
from noneleft.stuck import alone, stuck_by_name
from noneleft.weights import is_steady, steady_weights, weight_of
from refusals import Refusals
from samples import BALANCES, BOOKS, CLOCKS, NONE, PAIRS, SIX, TWELVE, UNSAFE
from test_court import LARGE, SAFE, WRONG
from test_stuck import BOUNDED, UNBOUNDED
from test_weights import DENSE, EVEN, FIVES, FOURS, THREES, are_counts
from trial import (NO_NUMBERS, NO_SEQUENCES, NOTHING, Trial, cleared, cost_of, crowds_up_to, is_plain, near_misses, within,
                   without)

HUGE = 10 ** 18
ALL = [book for book in BOOKS + SAFE + WRONG + LARGE + (TWELVE, FOURS, EVEN, FIVES, THREES, DENSE) if book.batches]


def is_paper(book, value):
    """Whether this is a spread paper: worked out with fractions."""
    if type(value) is not tuple or len(value) != 3 or not is_plain(value) or type(value[0]) is not tuple:
        return False
    weights, counts, other = value
    if len(weights) != 2 or type(weights[0]) is not int or weights[0] < 1 or type(weights[1]) is not tuple:
        return False
    if len(weights[1]) != book.kinds or any(type(number) is not int for number in weights[1]):
        return False
    if not are_counts(book, counts) or not are_counts(book, other) or not any(counts) or not any(other):
        return False
    if cleared(book, counts) != cleared(book, other) or max(counts + other + weights[:1]) >= 10 ** 100:
        return False
    ratio = Fraction(sum(counts), sum(other))
    return all(1 <= Fraction(cost_of(batch, weights[1]), weights[0]) <= ratio for batch in book.batches)


def is_apart(book, value):
    """Whether this is a crowd and the counts of two runs from it that end, of unlike lengths."""
    if type(value) is not tuple or len(value) != 3 or not is_plain(value):
        return False
    crowd, counts, other = value
    if type(crowd) is not tuple or len(crowd) != book.kinds or any(type(number) is not int or number < 0 for number in crowd):
        return False
    for one in (counts, other):
        if not are_counts(book, one) or not within(cleared(book, one), crowd):
            return False
        if any(within(batch, without(crowd, cleared(book, one))) for batch in book.batches):
            return False
    return sum(counts) != sum(other) and max(crowd + counts + other) < 10 ** 100


class Spread(Refusals):

    def test_examples(self):
        self.same(spread(PAIRS), (3, 2))
        self.same(spread(book=FOURS), (1, 1))
        self.same(spread(Book(1, [(1,), (8,)])), (8, 1))
        self.same(spread(Book(1, [(3,), (8,)])), (8, 3))
        self.same(spread(EVEN), (3, 1))
        self.same(spread(BALANCES), (1, 1))
        self.same(spread(Book(2, [(1, 0), (0, 1), (4, 4)])), (8, 1))
        self.same(spread(Book(2, [(1, 0), (2, 5)])), (1, 1))
        self.assertIs(is_spread_paper(book=PAIRS, value=((2, (1, 1)), (0, 3, 0), (1, 0, 1))), True)
        self.assertIs(is_spread_paper(PAIRS, ((6, (3, 3)), (5, 6, 0), (7, 0, 2))), False)
        self.assertIs(is_spread_paper(PAIRS, ((20, (10, 10)), (0, 30, 0), (10, 0, 10))), True)
        self.assertTrue(is_paper(PAIRS, spread_paper(book=PAIRS)))

    def test_each_book_by_what_shows_it(self):
        for book in ALL:
            value = spread_paper(book)
            self.assertTrue(is_paper(book, value), (book.batches, value))
            self.assertIs(is_spread_paper(book, value), True)
            ratio = Fraction(sum(value[1]), sum(value[2]))
            self.same(spread(book), (ratio.numerator, ratio.denominator))
            self.assertEqual(spread(book) == (1, 1), is_steady(book))

    def test_runs(self):
        for book in ALL:
            if book.kinds < 4:
                greatest, trial = Fraction(*spread(book)), Trial(book)
                bottom, numbers = spread_paper(book)[0]
                reached = Fraction(1)
                for crowd in crowds_up_to(book.kinds, {1: 24, 2: 12, 3: 8}[book.kinds])[1:]:
                    lengths = [length for length, left in trial.outcomes(crowd) if not any(left)]
                    if lengths:
                        reached = max(reached, Fraction(max(lengths), min(lengths)))
                        weight = Fraction(cost_of(crowd, numbers), bottom)
                        self.assertTrue(max(lengths) <= weight <= greatest * min(lengths))
                self.assertTrue(reached <= greatest)
                if book in (PAIRS, EVEN, FIVES, FOURS, THREES, UNSAFE):
                    self.assertEqual(reached, greatest)

    def test_all_small_books(self):
        # All books of three batches of two kinds with at most four members.
        batches = [batch for batch in crowds_up_to(2, 4) if any(batch)]
        for first, second, third in product(batches, repeat=3):
            if first < second < third:
                book = Book(2, [first, second, third])
                value = spread_paper(book)
                self.assertTrue(is_paper(book, value), book.batches)
                self.assertIs(is_spread_paper(book, value), True)

    def test_any_value(self):
        for book, value in ((PAIRS, ((2, (1, 1)), (0, 3, 0), (1, 0, 1))), (EVEN, ((6, (3,)), (3, 0), (0, 1))),
                            (FOURS, ((4, (1, 2)), (1, 0, 0), (1, 0, 0)))):
            self.assertIs(is_spread_paper(book, value), True)
            for wrong in near_misses(value):
                self.assertIs(is_spread_paper(book, wrong), is_paper(book, wrong), wrong)
        for value in NOTHING + (((2, (1, 1)), (1, 0, 1), (0, 3, 0)), ((2, (1, 1)), (0, 0, 0), (0, 0, 0)),
                                ((2, (1, 1)), (0, 1, 0), (0, 1, 0)), ((2, (1, 1)), (0, 3, 0), (1, 1, 1)),
                                ((3, (1, 1)), (0, 3, 0), (1, 0, 1)), ((1, (1, 1)), (0, 3, 0), (1, 0, 1)),
                                ((2, (2, 0)), (0, 3, 0), (1, 0, 1)), ((-2, (-1, -1)), (0, 3, 0), (1, 0, 1)),
                                ((2, (1, 1)), (0, 3, 0), (0, 1, 0)), ((2, (1, 1)), (0, 3, 0), (1, 0, 0)),
                                ((2, (1, 1)), (0, 3, 0)), ((2, (1, 1)), (-1, 3, -1), (0, 0, 0)),
                                ((0, (0, 0)), (0, 3, 0), (1, 0, 1))):
            self.assertIs(is_spread_paper(PAIRS, value), False, value)

    def test_no_batches(self):
        for book in (NONE, Book(1, []), Book(6, [])):
            self.refused(Refused, 0, spread, book)
            self.refused(Refused, 0, spread_paper, book)
            for value in NOTHING + (((1, (1,) * book.kinds), (), ()), None):
                self.assertIs(is_spread_paper(book, value), False)


class EndsAlike(Refusals):

    def test_examples(self):
        self.same(told_length(FOURS, (7, 0)), 1)
        self.same(told_length(book=FOURS, crowd=[4, 4]), 3)
        self.same(told_length(FOURS, (HUGE, HUGE)), HUGE // 4 + HUGE // 2)
        self.same(told_length(CLOCKS, (HUGE - 1, 0)), HUGE // 4 - 1)
        self.same(told_length(Book(1, [(1,)]), (HUGE,)), HUGE)
        self.same(told_length(FOURS, (0, 0)), 0)
        self.assertIsNone(unlike_lengths(book=FOURS))
        self.assertIsNone(unlike_lengths(CLOCKS))
        self.assertTrue(is_apart(PAIRS, unlike_lengths(PAIRS)))
        self.assertIs(is_unlike_lengths(book=PAIRS, value=((3, 3), (1, 0, 1), (0, 3, 0))), True)
        self.assertIs(is_unlike_lengths(PAIRS, ((3, 1), (0, 1, 0), (0, 0, 1))), False)

    def test_each_book(self):
        told = set()
        for book in BOUNDED + SAFE + WRONG + (FOURS, EVEN, FIVES, THREES, Book(2, [(0, 3), (1, 2), (2, 1), (3, 0)])):
            if None in alone(book) or book.kinds > 5 and book in SAFE:
                continue
            value = unlike_lengths(book)
            trial, most = Trial(book), {1: 24, 2: 11, 3: 8}.get(book.kinds, 5)
            told.add((value is None, is_steady(book)))
            if value is not None:
                self.assertTrue(is_apart(book, value), (book.batches, value))
                self.assertIs(is_unlike_lengths(book, value), True)
                self.assertIs(is_unlike_lengths(book, (value[0], value[2], value[1])), True)
                for crowd in ((1,) * book.kinds, None):
                    self.refused(Refused, 1, told_length, book, crowd)
                continue
            for crowd in crowds_up_to(book.kinds, most):
                lengths = {length for length, _ in trial.outcomes(crowd)}
                self.same(tuple(lengths), (told_length(book, crowd),))
            self.assertTrue(is_steady(book))
            if all(sum(batch) < 7 for batch in book.batches) and len(book.batches) < 9:
                self.assertTrue(is_safe(book))
            for _, crowds in stuck_by_name(book):
                self.assertEqual(len({weight_of(book, steady_weights(book), crowd) for crowd in crowds}), 1)
        self.assertEqual(told, {(True, True), (False, True), (False, False)})

    def test_small_books_plainly(self):
        # In these books some small crowd has ends of unlike lengths, if any crowd has.
        batches = [batch for batch in crowds_up_to(2, 4) if all(batch)]
        for first, second, third in product(range(1, 5), range(1, 5), batches):
            book = Book(2, [(first, 0), (0, second), third])
            trial = Trial(book)
            unlike = any(len({length for length, _ in trial.outcomes(crowd)}) > 1 for crowd in crowds_up_to(2, 14))
            self.assertEqual(unlike_lengths(book) is not None, unlike, book.batches)

    def test_any_value(self):
        for book, value in ((PAIRS, ((3, 3), (1, 0, 1), (0, 3, 0))), (UNSAFE, ((2, 2), (2, 0), (0, 1))),
                            (Book(1, [(2,), (3,)]), ((6,), (3, 0), (0, 2)))):
            self.assertIs(is_unlike_lengths(book, value), True)
            for wrong in near_misses(value):
                self.assertIs(is_unlike_lengths(book, wrong), is_apart(book, wrong), wrong)
        for value in NOTHING + ((), ((0, 0), (0, 0, 0), (0, 0, 0)), ((3, 3), (1, 0, 1), (1, 0, 1)), ((3, 3), (1, 0, 1), (0, 2, 0)),
                                ((3, 3), (1, 0, 1), (0, 0, 1)), ((3, 3), (1, 0, 1), (0, 4, 0)), ((3, 3), (1, 0, 1), (0, 3)),
                                ([3, 3], (1, 0, 1), (0, 3, 0)), ((3, 3, 0), (1, 0, 1), (0, 3, 0)), ((3, 3), (1, 0, 1)),
                                ((3, 3), (True, 0, 1), (0, 3, 0)), ((3, 3), (2, 0, 0), (0, 3, 0))):
            self.assertIs(is_unlike_lengths(PAIRS, value), False, value)
        # Each book is asked, also one without a greatest number of members, or without batches.
        self.assertIs(is_unlike_lengths(NONE, ((1, 1), (), ())), False)
        self.assertIs(is_unlike_lengths(SIX, ((0,) * 6, (0,) * 6, (0,) * 6)), False)
        self.assertIs(is_unlike_lengths(PAIRS, ((HUGE, HUGE), (HUGE // 3, 1, HUGE // 3), (0, HUGE, 0))), True)

    def test_refusals(self):
        for book in UNBOUNDED + (Book(2, [(1, 0), (2, 0)]), Book(2, [(1, 1), (3, 0), (2, 2)]),
                                 Book(3, [(1, 0, 0), (0, 1, 0), (1, 1, 0)])):
            self.refused(Refused, 0, unlike_lengths, book)
            for crowd in ((1,) * book.kinds, None, (-1,)):
                self.refused(Refused, 0, told_length, book, crowd)
        for value in NO_SEQUENCES:
            self.refused(InvalidCrowd, 2, told_length, FOURS, value)
            self.refused(Refused, 1, told_length, PAIRS, value)
        for value in NO_NUMBERS:
            self.refused(InvalidCrowd, 1, told_length, FOURS, (1, value))
            self.refused(InvalidCrowd, 0, told_length, FOURS, [value, 1, 1])
        self.refused(InvalidCrowd, 2, told_length, FOURS, (1,))


if __name__ == "__main__":
    unittest.main()
