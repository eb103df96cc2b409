"""[31], [32]: steady books, and how the lengths of runs that clear the same crowd differ."""

import unittest
from fractions import Fraction
from math import gcd

from noneleft.books import Book
from noneleft.court import summed_batches
from noneleft.errors import InvalidCrowd, InvalidQuestion
from noneleft.stuck import alone
from noneleft.tables import signed_table
from noneleft.weights import (are_steady_weights, are_step_hours, are_unlike_counts, is_steady, length_step, steady_weights,
                              step_counts, step_hours, unlike_counts, weight_of)
from refusals import Refusals
from samples import BALANCES, BOOKS, CLOCKS, NONE, PAIRS, SIX, TWELVE, UNSAFE
from test_court import LARGE, SAFE, WRONG
from trial import (NO_INTEGERS, NO_NUMBERS, NO_SEQUENCES, NOTHING, Trial, added, cleared, cost_of, crowds_up_to,
                   is_in_stairs, is_plain, near_misses, taken)

FOURS = Book(2, [(0, 2), (2, 1), (4, 0)])
# Lengths differ by even numbers only, by multiples of 5, by multiples of 3.
EVEN = Book(1, [(2,), (6,)])
FIVES = Book(1, [(1,), (6,)])
THREES = Book(2, [(0, 2), (2, 0), (1, 1), (5, 3)])
ALL = BOOKS + SAFE + WRONG + LARGE + (TWELVE, FOURS, EVEN, FIVES, THREES)
# Twelve batches of eight members each: the numbers in what is told of them are larger.
DENSE = Book(6, [(3, 1, 2, 0, 1, 1), (1, 3, 0, 2, 1, 1), (2, 2, 1, 1, 0, 2), (0, 1, 3, 1, 2, 1), (1, 1, 1, 1, 3, 1),
                 (5, 0, 1, 0, 2, 0), (0, 5, 0, 1, 0, 2), (1, 0, 4, 0, 1, 2), (2, 0, 0, 4, 0, 2), (0, 2, 2, 0, 4, 0),
                 (1, 1, 0, 0, 1, 5), (7, 0, 0, 0, 0, 1)])


def are_counts(book, value):
    return type(value) is tuple and len(value) == len(book.batches) and all(
        type(number) is int and number >= 0 for number in value)


def are_unlike(book, value):
    """Whether this is a pair of counts with the same crowd and unlike lengths, of at most 100 digits."""
    if type(value) is not tuple or len(value) != 2 or not all(are_counts(book, counts) for counts in value):
        return False
    one, other = value
    return cleared(book, one) == cleared(book, other) and sum(one) != sum(other) and max(one + other) < 10 ** 100


def weigh_one(book, value):
    """Whether these are weights by which each batch weighs 1."""
    if type(value) is not tuple or len(value) != 2 or type(value[0]) is not int or value[0] < 1:
        return False
    if type(value[1]) is not tuple or len(value[1]) != book.kinds or any(type(number) is not int for number in value[1]):
        return False
    return all(sum(Fraction(number * weight, value[0]) for number, weight in zip(batch, value[1])) == 1
               for batch in book.batches)


def taken_of_rows(table, row):
    """How often each row of the table in stairs is taken for this sum of them."""
    numbers = []
    for step in table:
        at = [entry != 0 for entry in step].index(True)
        numbers.append(row[at] // step[at])
        row = added(row, taken(-numbers[-1], step))
    assert not any(row)
    return numbers


def are_hours(book, step, value):
    """Whether these are hours for the step."""
    table = signed_table(book)
    if type(value) is not tuple or len(value) != len(table) or any(type(hour) is not int for hour in value):
        return False
    differences = [cost_of(taken_of_rows(table, batch), value) - 1 for batch in book.batches]
    return all(number % step == 0 if step else number == 0 for number in differences)


class Weights(Refusals):

    def test_weight_of(self):
        self.same(weight_of(FOURS, (4, (1, 2)), (1, 1)), (3, 4))
        self.same(weight_of(book=FOURS, weights=(4, (1, 2)), row=[2, 1]), (1, 1))
        self.same(weight_of(FOURS, (4, (1, 2)), (0, 0)), (0, 1))
        self.same(weight_of(FOURS, (4, (1, 2)), (0, -3)), (-3, 2))
        self.same(weight_of(FOURS, (10, (-5, 0)), (-4, 10 ** 29)), (2, 1))
        self.same(weight_of(FOURS, (1, (0, 0)), (7, 7)), (0, 1))
        self.same(weight_of(NONE, (6, (4, -10)), (3, 3)), (-3, 1))
        self.same(weight_of(Book(1, []), (10 ** 90, (10 ** 60,)), (10 ** 29,)), (1, 10))
        for row in ((5, 3), (-5, 3), (12, -7), (0, 1)):
            for value in ((7, (3, -2)), (12, (8, 18)), (1, (5, 5))):
                worth = Fraction(cost_of(row, value[1]), value[0])
                self.same(weight_of(PAIRS, value, row), (worth.numerator, worth.denominator))

    def test_weight_of_refusals(self):
        for value in NOTHING + ((4, [1, 2]), [4, (1, 2)], (0, (1, 2)), (-4, (1, 2)), (True, (1, 2)), (4, (1, True)), (4, (1,)),
                                (4, (1, 2, 3)), (4, (1, 2.0)), (4.0, (1, 2)), (4, (1, 2), 0), (4,), ((1, 2), 4), (4, None)):
            self.refused(InvalidQuestion, 0, weight_of, FOURS, value, (1, 1))
            self.refused(InvalidQuestion, 0, weight_of, FOURS, value, None)
        for value in near_misses((4, (1, 2))):
            self.refused(InvalidQuestion, 0, weight_of, FOURS, value, (1,))
        for value in NO_SEQUENCES:
            self.refused(InvalidCrowd, 2, weight_of, FOURS, (4, (1, 2)), value)
        for value in NO_INTEGERS:
            self.refused(InvalidCrowd, 1, weight_of, FOURS, (4, (1, 2)), (-1, value))
            self.refused(InvalidCrowd, 2, weight_of, FOURS, (4, (1, 2)), [1, 1, value])
        self.refused(InvalidCrowd, 2, weight_of, FOURS, (4, (1, 2)), (1,))


class Steady(Refusals):

    def test_examples(self):
        self.assertIs(is_steady(book=FOURS), True)
        self.assertIs(is_steady(PAIRS), False)
        self.assertTrue(weigh_one(FOURS, steady_weights(book=FOURS)))
        self.assertIsNone(unlike_counts(FOURS))
        self.assertIsNone(steady_weights(PAIRS))
        self.assertTrue(are_unlike(PAIRS, unlike_counts(book=PAIRS)))
        self.assertIs(are_steady_weights(book=FOURS, value=(4, (1, 2))), True)
        self.assertIs(are_steady_weights(FOURS, (40, (10, 20))), True)
        self.assertIs(are_unlike_counts(book=PAIRS, value=((1, 0, 1), (0, 3, 0))), True)
        self.assertIs(are_unlike_counts(PAIRS, ((0, 3, 0), (1, 0, 1))), True)
        self.assertIs(are_unlike_counts(PAIRS, ((5, 3, 1), (6, 0, 2))), True)

    def test_no_batches(self):
        for book in (NONE, Book(1, []), Book(6, [])):
            self.assertIs(is_steady(book), True)
            self.assertTrue(weigh_one(book, steady_weights(book)))
            self.assertIsNone(unlike_counts(book))
            self.assertIs(are_unlike_counts(book, ((), ())), False)
            self.assertIs(are_steady_weights(book, (7, (-5,) * book.kinds)), True)
            self.assertIs(are_steady_weights(book, (0, (1,) * book.kinds)), False)

    def test_each_book_by_what_shows_it(self):
        told = set()
        for book in ALL + (DENSE,):
            told.add(is_steady(book))
            if is_steady(book):
                self.assertTrue(weigh_one(book, steady_weights(book)), book.batches)
                self.assertIs(are_steady_weights(book, steady_weights(book)), True)
                self.assertIsNone(unlike_counts(book))
                self.assertEqual(summed_batches(book), ())
            else:
                self.assertIsNone(steady_weights(book))
                self.assertTrue(are_unlike(book, unlike_counts(book)), book.batches)
                self.assertIs(are_unlike_counts(book, unlike_counts(book)), True)
            if None not in alone(book):
                sums = [sum(Fraction(number, least) for number, least in zip(batch, alone(book))) for batch in book.batches]
                self.assertEqual(is_steady(book), set(sums) == {1})
        self.assertEqual(told, {True, False})

    def test_weights_below_nought(self):
        # Kind 1 must weigh less than nothing.
        book = Book(2, [(1, 0), (2, 3)])
        self.assertTrue(weigh_one(book, steady_weights(book)))
        self.assertTrue(steady_weights(book)[1][1] < 0)
        book = Book(3, [(1, 0, 0), (2, 3, 0), (4, 1, 2)])
        self.assertTrue(weigh_one(book, steady_weights(book)))

    def test_runs(self):
        for book in BOOKS:
            trial = Trial(book)
            for crowd in crowds_up_to(book.kinds, {1: 20, 2: 9, 3: 7}.get(book.kinds, 4)):
                lengths = {length for length, left in trial.outcomes(crowd) if not any(left)}
                if len(lengths) > 1:
                    self.assertIs(is_steady(book), False)
                if is_steady(book):
                    for length in lengths:
                        self.assertEqual(weight_of(book, steady_weights(book), crowd), (length, 1))

    def test_any_weights(self):
        for book, value in ((FOURS, (4, (1, 2))), (BALANCES, (2, (1, 2, -1))), (CLOCKS, (4, (1, 2)))):
            self.assertIs(are_steady_weights(book, value), True)
            for wrong in near_misses(value):
                self.assertIs(are_steady_weights(book, wrong), False, wrong)
        for value in NOTHING + ((4, (1, 1)), (4, (2, 1)), (-4, (-1, -2)), (0, (0, 0)), (3, (1, 2)), (1, (0, 0)), (4, (1, 2, 0))):
            self.assertIs(are_steady_weights(FOURS, value), False, value)
            self.assertIs(are_steady_weights(PAIRS, value), False, value)

    def test_any_counts(self):
        for book, value in ((PAIRS, ((1, 0, 1), (0, 3, 0))), (EVEN, ((3, 0), (0, 1)))):
            self.assertIs(are_unlike_counts(book, value), True)
            for wrong in near_misses(value):
                self.assertIs(are_unlike_counts(book, wrong), are_unlike(book, wrong), wrong)
        for value in NOTHING + ((), ((0, 0, 0), (0, 0, 0)), ((1, 0, 1), (1, 0, 1)), ((1, 0, 1), (0, 2, 0)), ((1, 0, 1), (0, 3)),
                                ((-1, 3, -1), (0, 0, 0)), ((1, 0, 1), (0, 3, 0), ()), ([1, 0, 1], [0, 3, 0]),
                                [(1, 0, 1), (0, 3, 0)], ((True, 0, 1), (0, 3, 0)), ((1, False, 1), (0, 3, 0))):
            self.assertIs(are_unlike_counts(PAIRS, value), False, value)
        # Unlike lengths, but also unlike crowds; and the same crowd, but the same length.
        for value in (((1, 0, 1), (0, 4, 0)), ((0, 0, 0), (0, 3, 0)), ((1, 0, 1), (0, 3, 1)), ((1, 0, 0), (0, 3, 0))):
            self.assertIs(are_unlike_counts(PAIRS, value), False, value)
        self.assertIs(are_unlike_counts(Book(2, [(0, 2), (1, 1), (2, 0)]), ((1, 0, 1), (0, 2, 0))), False)


class Steps(Refusals):

    def test_examples(self):
        self.same(length_step(PAIRS), 1)
        self.same(length_step(book=FOURS), 0)
        self.same(length_step(EVEN), 2)
        self.same(length_step(FIVES), 5)
        self.same(length_step(THREES), 3)
        self.same(length_step(UNSAFE), 0)
        self.same(length_step(NONE), 0)
        self.assertIsNone(step_counts(book=FOURS))
        self.assertIsNone(step_counts(NONE))
        self.same(step_hours(book=NONE), ())
        self.assertIs(are_step_hours(book=NONE, step=0, value=()), True)

    def test_each_book_by_what_shows_it(self):
        for book in ALL + (DENSE,):
            step = length_step(book)
            self.assertEqual(step == 0, is_steady(book))
            value = step_counts(book)
            if step == 0:
                self.assertIsNone(value)
            else:
                self.assertTrue(are_unlike(book, value), book.batches)
                self.assertEqual(sum(value[0]) - sum(value[1]), step)
            hours = step_hours(book)
            self.assertTrue(is_in_stairs(book.kinds, signed_table(book)))
            self.assertTrue(are_hours(book, step, hours), (book.batches, step, hours))
            self.assertTrue(all(abs(hour) < 10 ** 100 for hour in hours))
            self.assertIs(are_step_hours(book, step, hours), True)

    def test_runs(self):
        for book in BOOKS + (EVEN, FIVES, THREES):
            trial, step = Trial(book), 0
            for crowd in crowds_up_to(book.kinds, {1: 20, 2: 10, 3: 7}.get(book.kinds, 4)):
                lengths = sorted(length for length, left in trial.outcomes(crowd) if not any(left))
                for length in lengths:
                    step = gcd(step, length - lengths[0])
            if length_step(book) == 0:
                self.assertEqual(step, 0)
            else:
                self.assertEqual(step % length_step(book), 0)
            if book in (PAIRS, EVEN, FIVES, THREES):
                self.assertEqual(step, length_step(book))

    def test_any_step(self):
        for book in ALL:
            greatest, many = length_step(book), len(signed_table(book))
            hours = step_hours(book)
            for step in range(13):
                for value in (hours, (0,) * many, (1,) * many, tuple(hour + 1 for hour in hours), tuple(hour - 6 for hour in hours)):
                    told = are_step_hours(book, step, value)
                    self.assertIs(told, are_hours(book, step, value), (book.batches, step, value))
                    if told:
                        self.assertTrue(greatest == 0 if step == 0 else greatest % step == 0)
                if step > 0 and greatest % step == 0:
                    self.assertIs(are_step_hours(book, step, hours), True)
        self.assertIs(are_step_hours(EVEN, 2, (10 ** 99 + 1,)), True)
        self.assertIs(are_step_hours(EVEN, 2, (10 ** 99,)), False)
        self.assertIs(are_step_hours(EVEN, 2, (-1,)), True)
        self.assertIs(are_step_hours(EVEN, 4, (1,)), False)
        self.assertIs(are_step_hours(EVEN, 0, (1,)), False)
        self.assertIs(are_step_hours(Book(1, [(2,)]), 0, (1,)), True)
        self.assertIs(are_step_hours(Book(1, [(2,)]), 10 ** 50, (1,)), True)

    def test_any_hours(self):
        for value in NOTHING + ((), (1, 1), [1], (True,), (1.0,), ("1",), (None,), ((1,),)):
            self.assertIs(are_step_hours(EVEN, 2, value), False, value)
            self.assertIs(are_step_hours(EVEN, 1, value), False, value)
        for value in NO_SEQUENCES + ([], (0,), (None,)):
            self.assertIs(are_step_hours(NONE, 3, value), False, value)

    def test_refusals(self):
        for step in NO_NUMBERS:
            for value in ((1,), None, step):
                self.refused(InvalidQuestion, 0, are_step_hours, EVEN, step, value)
            self.refused(InvalidQuestion, 0, are_step_hours, NONE, step, ())

    def test_several_books(self):
        books = (PAIRS, FOURS, EVEN, FIVES, NONE, THREES)
        functions = (length_step, steady_weights, step_counts, step_hours)
        once = [[function(book) for function in functions] for book in books]
        again = [[function(book) for function in functions] for book in reversed(books)]
        self.assertEqual(once, again[::-1])


if __name__ == "__main__":
    unittest.main()
