"""[10], [11], [13], [14]: tables in stairs, names, batches put in and struck."""

from itertools import combinations, product

import unittest

from noneleft.books import Book
from noneleft.errors import InvalidCrowd, InvalidRun, Refused
from noneleft.tables import (generating, is_nought, name_of, needed, same_names, signed_numbers, signed_table,
                             with_batch, without_batch)
from refusals import Refusals
from samples import BALANCES, BOOKS, CLOCKS, EIGHTS, MIXED, NONE, PAIRS, SIX, TWELVE
from trial import (NO_INTEGERS, NO_NUMBERS, NO_SEQUENCES, added, is_in_stairs, is_plain, is_signed_sum, minors, taken,
                   unit, without)

HUGE = 10 ** 29


def wrong_rows(case, function):
    """The function of a book and a row refuses wrong rows, and leaves a list as it is."""
    for value in NO_SEQUENCES + ((), (1,), (1, 2, 3), (-1,)):
        case.refused(InvalidCrowd, 2, function, PAIRS, value)
    for entry in NO_INTEGERS:
        case.refused(InvalidCrowd, 0, function, PAIRS, (entry, entry))
        case.refused(InvalidCrowd, 1, function, PAIRS, [-1, entry])
        case.refused(InvalidCrowd, 3, function, PAIRS, [-1, 2, 3, entry])
    case.refused(InvalidCrowd, 6, function, SIX, (0,) * 5)
    row = [3, -3]
    function(PAIRS, row)
    case.assertEqual(row, [3, -3])
    case.same(function(PAIRS, [7, -8]), function(PAIRS, (7, -8)))
    case.same(function(book=PAIRS, row=(7, -8)), function(PAIRS, (7, -8)))


def rows_of(kinds):
    """Some rows of so many kinds, with numbers below 0 too."""
    return product({1: range(-9, 10), 2: range(-4, 5), 3: range(-2, 3)}.get(kinds, (-1, 0, 2)), repeat=min(kinds, 4))


def filled(kinds, row):
    return row + (0,) * (kinds - len(row))


class SignedTable(Refusals):

    def test_examples(self):
        self.same(signed_table(PAIRS), ((1, 1), (0, 3)))
        self.same(signed_table(book=CLOCKS), ((4, 0), (0, 2)))
        self.same(signed_table(NONE), ())
        self.same(signed_table(BALANCES), ((1, 1, 1),))
        self.same(signed_table(Book(1, [(4,), (6,)])), ((2,),))
        self.same(signed_table(Book(2, [(3, 1), (0, 2), (6, 6)])), ((3, 1), (0, 2)))
        self.same(signed_table(Book(3, [(0, 3, 1), (0, 1, 3)])), ((0, 1, 3), (0, 0, 8)))
        self.same(signed_table(Book(2, [(0, 5), (2, 7)])), ((2, 2), (0, 5)))
        self.same(signed_table(Book(2, [(1, 3), (1, 1)])), ((1, 1), (0, 2)))

    def test_tables_in_stairs_of_just_the_signed_sums(self):
        for book in BOOKS + (TWELVE, EIGHTS):
            table = signed_table(book)
            self.assertTrue(is_in_stairs(book.kinds, table), table)
            if len(book.batches) < 7 and book is not EIGHTS:
                # Nothing is there that the batches do not make, and nothing is missing.
                self.assertTrue(all(is_signed_sum(book.batches, row) for row in table))
                self.assertEqual(minors(table), minors(book.batches))

    def test_twelve_batches(self):
        self.same(signed_table(TWELVE), ((2, 0, 0, 0), (0, 2, 0, 0), (0, 0, 2, 0), (0, 0, 0, 2)))
        self.same(signed_table(EIGHTS), tuple(taken(8, unit(6, kind)) for kind in range(6)))


class SignedNumbers(Refusals):

    def test_each_row(self):
        for book in BOOKS:
            for row in rows_of(book.kinds):
                row = filled(book.kinds, row)
                self.try_numbers(book, row, is_signed_sum(book.batches, row))

    def try_numbers(self, book, row, wanted):
        numbers = signed_numbers(book, row)
        if not wanted:
            self.assertIsNone(numbers)
            return
        self.assertTrue(type(numbers) is tuple and is_plain(numbers))
        self.assertEqual(len(numbers), len(book.batches))
        found = (0,) * book.kinds
        for number, batch in zip(numbers, book.batches):
            found = added(found, taken(number, batch))
        self.assertEqual(found, row)

    def test_thirty_digits(self):
        self.try_numbers(PAIRS, (3 * HUGE, 0), True)
        self.try_numbers(PAIRS, (3 * HUGE, 1), False)
        self.try_numbers(PAIRS, (HUGE, -2 * HUGE), True)
        self.try_numbers(PAIRS, (HUGE, -HUGE), False)
        self.try_numbers(MIXED, (2 * HUGE, 4 * HUGE), True)
        self.try_numbers(MIXED, (2 * HUGE, 4 * HUGE + 1), False)
        self.try_numbers(TWELVE, (-2 * HUGE, 4 * HUGE, 10 - 6 * HUGE, 2), True)
        self.try_numbers(TWELVE, (-2 * HUGE, 4 * HUGE, 10 - 6 * HUGE, 1), False)

    def test_no_batches(self):
        self.same(signed_numbers(NONE, (0, 0)), ())
        self.assertIsNone(signed_numbers(NONE, (0, -1)))

    def test_one_batch(self):
        self.same(signed_numbers(MIXED, (-6, -12)), (-3,))
        self.assertIsNone(signed_numbers(MIXED, (1, 2)))

    def test_wrong_rows(self):
        wrong_rows(self, signed_numbers)


class Names(Refusals):

    def test_examples(self):
        self.same(name_of(PAIRS, (5, 0)), (0, 1))
        self.same(name_of(PAIRS, (0, 2)), (0, 2))
        self.same(name_of(PAIRS, (-1, 0)), (0, 1))
        self.same(name_of(NONE, [3, -4]), (3, -4))
        self.same(name_of(BALANCES, (2, 0, 7)), (0, -2, 5))
        self.same(name_of(MIXED, (-1, 0)), (1, 4))
        self.same(name_of(EIGHTS, (9, -1, 8, 16, 7, -8)), (1, 7, 0, 0, 7, 0))

    def test_thirty_digits(self):
        self.same(name_of(PAIRS, (3 * HUGE, 1)), (0, 1))
        self.same(name_of(PAIRS, (-3 * HUGE - 1, 3 * HUGE)), (0, 1))
        self.same(name_of(MIXED, (-2 * HUGE + 1, 0)), (1, 4 * HUGE))
        self.assertIs(is_nought(PAIRS, (HUGE, 4 * HUGE)), True)
        self.assertIs(is_nought(PAIRS, (HUGE, 4 * HUGE + 1)), False)

    def test_names_of_rows(self):
        for book in BOOKS:
            steps = [([number != 0 for number in row].index(True), row) for row in signed_table(book)]
            for row in rows_of(book.kinds):
                row = filled(book.kinds, row)
                name = name_of(book, row)
                self.assertTrue(type(name) is tuple and is_plain(name) and len(name) == book.kinds)
                self.assertTrue(all(0 <= name[at] < step[at] for at, step in steps))
                self.assertTrue(is_signed_sum(book.batches, without(row, name)))
                self.assertEqual(name_of(book, name), name)
                self.assertIs(is_nought(book, row), is_signed_sum(book.batches, row))
                self.assertIs(is_nought(book, row), not any(name))

    def test_same_names(self):
        for book in BOOKS:
            rows = [filled(book.kinds, row) for row in rows_of(book.kinds)][:40]
            for one in rows:
                for other in rows[::3]:
                    alike = name_of(book, one) == name_of(book, other)
                    self.assertEqual(alike, is_signed_sum(book.batches, without(one, other)))
                    names = added(name_of(book, one), name_of(book, other))
                    self.assertEqual(name_of(book, added(one, other)), name_of(book, names))

    def test_batches_come_to_nought(self):
        for book in BOOKS + (TWELVE, EIGHTS):
            for batch in book.batches + ((0,) * book.kinds,):
                self.assertIs(is_nought(book, batch), True)
                self.assertIs(is_nought(book, taken(-7, batch)), True)

    def test_wrong_rows(self):
        wrong_rows(self, name_of)
        wrong_rows(self, is_nought)


class SameNames(Refusals):

    def test_same_names(self):
        self.assertIs(same_names(PAIRS, Book(2, [(1, 1), (3, 0)])), True)
        self.assertIs(same_names(PAIRS, Book(2, [(2, 2), (3, 0)])), False)
        self.assertIs(same_names(one=PAIRS, other=PAIRS), True)
        self.assertIs(same_names(NONE, Book(2, [])), True)
        self.assertIs(same_names(NONE, MIXED), False)
        self.assertIs(same_names(Book(1, [(4,), (6,)]), Book(1, [(2,)])), True)
        self.assertIs(same_names(Book(1, [(4,)]), Book(1, [(2,)])), False)

    def test_each_two_books(self):
        small = [book for book in BOOKS if book.kinds < 4]
        for one in small:
            for other in small:
                if one.kinds != other.kinds:
                    self.refused(Refused, 0, same_names, one, other)
                else:
                    wanted = all(is_signed_sum(one.batches, batch) for batch in other.batches)
                    wanted = wanted and all(is_signed_sum(other.batches, batch) for batch in one.batches)
                    self.assertIs(same_names(one, other), wanted)


class PutInAndStruck(Refusals):

    def test_with_batch(self):
        found = with_batch(PAIRS, (1, 2))
        self.assertEqual(found, Book(2, [(0, 3), (1, 1), (1, 2), (3, 0)]))
        self.assertIs(type(found), Book)
        self.assertEqual(PAIRS, Book(2, [(0, 3), (1, 1), (3, 0)]))
        self.assertEqual(with_batch(book=NONE, batch=(0, 1)), Book(2, [(0, 1)]))

    def test_no_batch(self):
        for batch in NO_SEQUENCES + ([1, 2], (0, 0), (1,), (1, 2, 3), (), (1, -1), (1, None), (1, 2.0), [0, 3], ((1, 1),)):
            self.refused(Refused, 0, with_batch, PAIRS, batch)
        for entry in NO_NUMBERS:
            self.refused(Refused, 0, with_batch, PAIRS, (entry, 2))
        # Equal to a batch, but none: a bool is no number.
        self.refused(Refused, 0, with_batch, PAIRS, (True, 1))
        self.refused(Refused, 0, with_batch, PAIRS, (0.0, 3))

    def test_there_already(self):
        for batch in PAIRS.batches:
            self.refused(Refused, 1, with_batch, PAIRS, batch)

    def test_without_batch(self):
        for at in range(3):
            wanted = list(PAIRS.batches)
            del wanted[at]
            self.assertEqual(without_batch(PAIRS, at), Book(2, wanted))
        self.assertEqual(without_batch(book=MIXED, batch=0), NONE)
        self.assertEqual(len(PAIRS.batches), 3)

    def test_no_index(self):
        for batch in NO_NUMBERS + (3, 10 ** 20, (0, 3)):
            self.refused(InvalidRun, 0, without_batch, PAIRS, batch)
        self.refused(InvalidRun, 0, without_batch, NONE, 0)

    def test_needed_and_generating(self):
        self.same(needed(PAIRS), (1,))
        self.same(generating(PAIRS), (0, 1))
        self.same(needed(book=NONE), ())
        self.same(generating(book=NONE), ())
        self.same(needed(EIGHTS), (0, 1, 2, 3, 4, 5))
        self.same(generating(EIGHTS), (0, 1, 2, 3, 4, 5))
        self.same(needed(Book(1, [(2,), (3,), (5,)])), ())
        self.same(generating(Book(1, [(2,), (3,), (5,)])), (0, 1))
        self.same(generating(Book(1, [(2,), (4,), (8,)])), (0,))
        self.same(generating(Book(1, [(6,), (8,), (4,), (7,)])), (0, 2))
        self.same(needed(Book(1, [(4,), (6,), (7,), (8,)])), (2,))

    def test_the_least_number_may_be_greater_than_that_of_rows(self):
        self.same(generating(Book(1, [(6,), (10,), (15,)])), (0, 1, 2))
        self.same(needed(Book(1, [(6,), (10,), (15,)])), (0, 1, 2))
        self.same(generating(Book(2, [(6, 0), (0, 6), (4, 0), (0, 4), (2, 2)])), (0, 1, 2))
        self.same(generating(Book(2, [(6, 0), (0, 6), (4, 0), (0, 4)])), (0, 1, 2, 3))

    def test_each_book(self):
        for book in BOOKS + (TWELVE,):
            table = signed_table(book)
            many = len(book.batches)
            wanted = tuple(at for at in range(many) if signed_table(without_batch(book, at)) != table)
            self.same(needed(book), wanted)
            chosen = generating(book)
            self.assertTrue(type(chosen) is tuple and is_plain(chosen))
            self.assertEqual(self.first_generating(book, table), chosen)
            self.assertTrue(set(wanted) <= set(chosen))

    def first_generating(self, book, table):
        for size in range(len(book.batches) + 1):
            for chosen in combinations(range(len(book.batches)), size):
                if signed_table(Book(book.kinds, [book.batches[at] for at in chosen])) == table:
                    return chosen
        return None


if __name__ == "__main__":
    unittest.main()
