"""[11], [12], [13]: clocks, balances, and what they tell."""

from itertools import product
from math import gcd

import unittest

from noneleft.books import Book
from noneleft.errors import InvalidCrowd, InvalidGroup, Refused
from noneleft.naming import (all_names, hours_of, is_naming, like_kinds, moduli, name_count, naming, order_of, table_of,
                             translation)
from noneleft.tables import is_nought, name_of, signed_table
from refusals import Refusals
from samples import BALANCES, BOOKS, CLOCKS, EIGHTS, MIXED, NONE, PAIRS, SIX, TWELVE, TWO_OF_EACH
from test_tables import HUGE, filled, rows_of, wrong_rows
from trial import (NO_INTEGERS, NO_NUMBERS, NO_SEQUENCES, NOTHING, Alike, added, is_in_stairs, is_plain, is_signed_sum,
                   minors, moduli_of, near_misses, taken, unit)

# What is no naming for two kinds, with the index of the first entry that is wrong.
WRONG_NAMINGS = [(value, 0) for value in NO_SEQUENCES + ([], [(3, (1, 1))])]
for wrong_entry in ([3, (1, 1)], (3, [1, 1]), (3,), (3, (1, 1), 0), (1, (1, 1)), (-1, (1, 1)), (-3, (1, 1)), (3, (1,)),
                    (3, (1, 1, 1)), (3, ()), (), 3, None, "ab", ((1, 1), 3), (3, 1), (True, (1, 1)), (False, (1, 1)),
                    (3.0, (1, 1)), (None, (1, 1)), ("3", (1, 1)), (3, (1, True)), (3, (False, 1)), (3, (1, 1.0)),
                    (3, (None, 1)), (3, "11"), (0.0, (1, 1)), (Alike(), (1, 1)), (3, (Alike(), 1)), Alike(), (3, Alike())):
    WRONG_NAMINGS += [((wrong_entry,), 0), (((3, (1, 1)), wrong_entry), 1), ((wrong_entry, wrong_entry), 0),
                      (((0, (5, -5)), (2, (0, 0)), wrong_entry, None), 2)]


def told_plainly(pairs, row):
    """What the naming tells of the row, as the document says it."""
    sums = [sum(hour * number for hour, number in zip(hours, row)) for _, hours in pairs]
    return tuple(total % pair[0] if pair[0] else total for total, pair in zip(sums, pairs))


def hits_all(kinds, pairs):
    """Whether the naming tells every row of hours: whether it and its moduli have a determinant 1 in common."""
    rows = [tuple(hours[kind] for _, hours in pairs) for kind in range(kinds)]
    rows += [taken(pair[0], unit(len(pairs), at)) for at, pair in enumerate(pairs)]
    return len(minors(tuple(rows))) == len(pairs) + 1 and minors(tuple(rows))[-1] == 1


def other_namings(pairs):
    """Other namings of the same book."""
    found = []
    for at, (modulus, hours) in enumerate(pairs):
        changes = [taken(-1, hours)]
        if modulus:
            changes += [added(hours, taken(modulus, range(-1, len(hours) - 1))), taken(modulus + 1, hours)]
        for later, (larger, others) in enumerate(pairs):
            if later != at and (larger == 0 or modulus and larger % modulus == 0):
                changes.append(added(hours, taken(3, others)))
        found += [pairs[:at] + ((modulus, change),) + pairs[at + 1:] for change in changes]
    return found


class HoursOf(Refusals):

    def test_hours(self):
        self.same(hours_of(2, ((3, (1, 2)),), (5, 0)), (2,))
        self.same(hours_of(2, ((3, (1, 2)), (0, (1, -1)), (7, (-1, 8))), [4, -2]), (0, 6, 1))
        self.same(hours_of(2, (), (4, -2)), ())
        self.same(hours_of(1, ((2, (1,)),), (-1,)), (1,))
        self.same(hours_of(kinds=6, value=((0, (1, 2, 3, 4, 5, 6)),), row=(-1, 0, 0, 0, 0, 1)), (5,))

    def test_thirty_digits(self):
        self.same(hours_of(2, ((HUGE, (HUGE - 1, 1)), (0, (HUGE, -HUGE))), (HUGE - 1, -5)), (HUGE - 4, HUGE * (HUGE + 4)))

    def test_wrong_namings(self):
        for value, at in WRONG_NAMINGS:
            self.refused(InvalidGroup, at, hours_of, 2, value, (1, 1))

    def test_the_naming_comes_first(self):
        for row in (None, (1,), (True, 1)):
            self.refused(InvalidGroup, 1, hours_of, 2, ((3, (1, 1)), (3, (1, True))), row)
            self.refused(InvalidGroup, 0, hours_of, 2, None, row)

    def test_wrong_rows(self):
        for value in NO_SEQUENCES + ((), (1,), [1, 2, 3]):
            self.refused(InvalidCrowd, 2, hours_of, 2, ((3, (1, 1)),), value)
            self.refused(InvalidCrowd, 2, hours_of, 2, (), value)
        for entry in NO_INTEGERS:
            self.refused(InvalidCrowd, 0, hours_of, 2, ((3, (1, 1)),), (entry, entry))
            self.refused(InvalidCrowd, 1, hours_of, 2, (), [0, entry])
            self.refused(InvalidCrowd, 2, hours_of, 2, (), [0, 1, entry])


class Naming(Refusals):

    def test_moduli(self):
        self.same(moduli(PAIRS), (3,))
        self.same(moduli(book=CLOCKS), (2, 4))
        self.same(moduli(BALANCES), (0, 0))
        self.same(moduli(MIXED), (2, 0))
        self.same(moduli(TWO_OF_EACH), (2, 4, 0, 0))
        self.same(moduli(NONE), (0, 0))
        self.same(moduli(EIGHTS), (8, 8, 8, 8, 8, 8))
        self.same(moduli(Book(1, [(1,)])), ())
        self.same(moduli(Book(1, [(4,), (6,)])), (2,))
        self.same(moduli(Book(2, [(2, 0), (0, 3)])), (6,))
        self.same(moduli(Book(3, [(4, 0, 0), (0, 6, 0)])), (2, 12, 0))
        self.same(moduli(Book(3, [(6, 0, 0), (0, 4, 0), (0, 0, 3)])), (6, 12))
        self.same(moduli(Book(4, [(2, 0, 0, 0), (0, 3, 0, 0), (0, 0, 5, 0), (0, 0, 0, 7)])), (210,))

    def test_moduli_of_each_book(self):
        for book in BOOKS + (TWELVE,):
            self.same(moduli(book), moduli_of(book.kinds, signed_table(book)))
            if len(book.batches) < 7:
                self.same(moduli(book), moduli_of(book.kinds, book.batches))

    def test_namings(self):
        for book in BOOKS + (TWELVE, EIGHTS):
            pairs = naming(book)
            self.assertTrue(is_plain(pairs) and type(pairs) is tuple)
            self.assertTrue(all(len(pair) == 2 and len(pair[1]) == book.kinds for pair in pairs))
            self.assertEqual(tuple(pair[0] for pair in pairs), moduli(book))
            self.assertTrue(hits_all(book.kinds, pairs))
            for batch in book.batches:
                self.assertFalse(any(told_plainly(pairs, batch)))
            for row in rows_of(book.kinds) if book is not EIGHTS else ():
                row = filled(book.kinds, row)
                self.same(hours_of(book.kinds, pairs, row), told_plainly(pairs, row))
                self.assertEqual(is_nought(book, row), not any(told_plainly(pairs, row)))
            self.assertIs(is_naming(book, pairs), True)
            self.assertIs(is_naming(book=book, value=pairs), True)

    def test_no_clock_and_no_balance(self):
        book = Book(2, [(1, 0), (0, 1)])
        self.same(naming(book), ())
        self.assertIs(is_naming(book, ()), True)
        for value in NO_SEQUENCES + ([], ((1, (0, 0)),), ((2, (0, 0)),), ((0, (0, 0)),), (None,), ((),)):
            self.assertIs(is_naming(book, value), False)

    def test_other_namings(self):
        for book in BOOKS:
            for pairs in other_namings(naming(book)):
                self.assertIs(is_naming(book, pairs), True, (book.batches, pairs))
        self.assertIs(is_naming(PAIRS, ((3, (1, 2)),)), True)
        self.assertIs(is_naming(PAIRS, ((3, (-2 + 3 * HUGE, 2 - 3 * HUGE)),)), True)
        self.assertIs(is_naming(BALANCES, ((0, (1, -1, 0)), (0, (0, 1, -1)))), True)
        self.assertIs(is_naming(BALANCES, ((0, (1, -1, 0)), (0, (HUGE, 1 - HUGE, -1)))), True)
        self.assertIs(is_naming(MIXED, ((2, (1, 0)), (0, (2, -1)))), True)
        self.assertIs(is_naming(MIXED, ((2, (1, 1)), (0, (-2, 1)))), True)

    def test_near_misses(self):
        for book in BOOKS:
            for value in near_misses(naming(book)) if naming(book) else ():
                self.assertIs(is_naming(book, value), False, (book.batches, value))

    def test_values_that_are_no_namings(self):
        for value in NOTHING + ((), (3, (1, 2)), ((3, (1, 2)), (3, (1, 2))), PAIRS):
            self.assertIs(is_naming(PAIRS, value), False)
        for value, _ in WRONG_NAMINGS:
            self.assertIs(is_naming(PAIRS, value), False)

    def test_namings_of_other_books(self):
        # A multiple of the right hours, hours that tell batches not 0, other moduli, another order.
        for pairs in (((3, (0, 0)),), ((3, (1, 1)),), ((3, (2, 0)),), ((6, (2, 4)),), ((6, (1, 5)),), ((9, (3, 6)),),
                      ((0, (0, 0)),), ((3, (1, 2)), (2, (0, 0))), ((3, (1, 2)), (0, (0, 0))), ((2, (1, 1)),)):
            self.assertIs(is_naming(PAIRS, pairs), False)
        self.assertIs(is_naming(CLOCKS, ((2, (0, 1)), (4, (1, 0)))), True)
        for pairs in (((4, (1, 0)), (2, (0, 1))), ((2, (0, 1)), (4, (2, 0))), ((2, (0, 1)), (4, (0, 2))),
                      ((2, (1, 0)), (4, (1, 0))), ((8, (2, 4)),), ((2, (0, 1)), (2, (1, 0))), ((4, (1, 0)),),
                      ((4, (0, 2)), (4, (1, 0)))):
            self.assertIs(is_naming(CLOCKS, pairs), False)
        for pairs in (((0, (1, -1, 0)),), ((0, (1, -1, 0)), (0, (1, 1, -2))), ((0, (1, -1, 0)), (0, (-1, 1, 0))),
                      ((0, (2, -2, 0)), (0, (0, 1, -1))), ((0, (1, -1, 0)), (0, (0, 0, 0))),
                      ((0, (1, 0, 0)), (0, (0, 1, -1))), ((0, (0, 0, 0)), (0, (0, 0, 0)))):
            self.assertIs(is_naming(BALANCES, pairs), False)
        for pairs in (((0, (2, -1)), (2, (1, 0))), ((2, (1, 0)), (0, (4, -2))), ((2, (0, 1)), (0, (2, -1))),
                      ((2, (0, 0)), (0, (2, -1))), ((0, (2, -1)), (0, (2, -1))), ((2, (1, 0)), (0, (0, 0)))):
            self.assertIs(is_naming(MIXED, pairs), False)

    def test_multiples_of_hours(self):
        for book in BOOKS:
            pairs = naming(book)
            for at, (modulus, hours) in enumerate(pairs):
                for number in (0, 2, 3, 4):
                    value = pairs[:at] + ((modulus, taken(number, hours)),) + pairs[at + 1:]
                    self.assertIs(is_naming(book, value), gcd(number, modulus) == 1)


class Counts(Refusals):

    def test_name_count(self):
        self.same(name_count(PAIRS), 3)
        self.same(name_count(book=EIGHTS), 8 ** 6)
        self.same(name_count(Book(1, [(1,)])), 1)
        for book in (NONE, BALANCES, MIXED, TWO_OF_EACH, Book(6, [])):
            self.assertIsNone(name_count(book))
        for book in BOOKS:
            if 0 not in moduli(book):
                steps = [max(row[at] for row in signed_table(book)[at:at + 1]) for at in range(book.kinds)]
                count = 1
                for step in steps:
                    count *= step
                self.same(name_count(book), count)

    def test_all_names(self):
        self.same(all_names(PAIRS), ((0, 0), (0, 1), (0, 2)))
        self.same(all_names(book=CLOCKS), ((0, 0), (0, 1), (1, 0), (1, 1), (2, 0), (2, 1), (3, 0), (3, 1)))
        self.same(all_names(Book(2, [(0, 1), (1, 0)])), ((0, 0),))
        for book in BOOKS:
            if 0 in moduli(book):
                self.refused(Refused, 0, all_names, book)
                continue
            found = all_names(book)
            self.assertTrue(type(found) is tuple and is_plain(found))
            self.assertEqual(list(found), sorted(set(found)))
            self.assertEqual(len(found), name_count(book))
            self.assertTrue(all(name_of(book, name) == name for name in found))

    def test_more_than_a_thousand_names(self):
        self.refused(Refused, 8 ** 6, all_names, EIGHTS)
        self.refused(Refused, 1001, all_names, Book(3, [(7, 0, 0), (0, 11, 0), (0, 0, 13)]))
        self.refused(Refused, 1024, all_names, Book(4, [(8, 0, 0, 0), (0, 8, 0, 0), (0, 0, 4, 0), (0, 0, 0, 4)]))
        thousand = Book(4, [(8, 0, 0, 0), (0, 5, 0, 0), (0, 0, 5, 0), (0, 0, 0, 5)])
        self.assertEqual(all_names(thousand), tuple(product(range(8), range(5), range(5), range(5))))

    def test_order_of(self):
        self.same(order_of(PAIRS, (1, 0)), 3)
        self.same(order_of(PAIRS, (1, 1)), 1)
        self.same(order_of(PAIRS, [0, 0]), 1)
        self.same(order_of(book=CLOCKS, row=(2, 1)), 2)
        self.same(order_of(CLOCKS, (-1, 1)), 4)
        self.same(order_of(Book(2, [(4, 0), (0, 6)]), (1, 1)), 12)
        self.same(order_of(MIXED, (-1, -2)), 2)
        self.assertIsNone(order_of(MIXED, (1, 0)))
        self.assertIsNone(order_of(NONE, (0, -1)))
        self.same(order_of(NONE, (0, 0)), 1)
        self.same(order_of(PAIRS, (HUGE, HUGE - 1)), 3)
        self.same(order_of(PAIRS, (HUGE, 4 * HUGE)), 1)
        self.assertIsNone(order_of(MIXED, (HUGE, 2 * HUGE + 1)))
        self.same(order_of(MIXED, (HUGE + 1, 2 * HUGE + 2)), 2)

    def test_order_of_each_row(self):
        for book in BOOKS:
            for row in rows_of(book.kinds):
                row = filled(book.kinds, row)
                order = order_of(book, row)
                if order is None:
                    # No balance is there without a table of less rows than kinds.
                    self.assertIn(0, moduli(book))
                    self.assertTrue(len(minors(signed_table(book) + (row,))) > len(minors(signed_table(book))))
                    continue
                self.assertIs(type(order), int)
                self.assertTrue(is_signed_sum(signed_table(book), taken(order, row)))
                for lesser in range(1, order):
                    self.assertFalse(is_signed_sum(signed_table(book), taken(lesser, row)))

    def test_wrong_rows(self):
        wrong_rows(self, order_of)

    def test_like_kinds(self):
        self.same(like_kinds(PAIRS), (0, 1))
        self.same(like_kinds(book=NONE), (0, 1))
        self.same(like_kinds(Book(2, [(1, 1), (2, 0)])), (0, 0))
        self.same(like_kinds(Book(4, [(2, 0, 0, 0), (1, 0, 1, 0), (0, 1, 0, 3), (0, 0, 0, 4)])), (0, 1, 0, 1))
        self.same(like_kinds(Book(3, [(1, 0, 0), (0, 1, 0), (0, 0, 2)])), (0, 0, 2))
        for book in BOOKS:
            units = [unit(book.kinds, kind) for kind in range(book.kinds)]
            wanted = [min(other for other in range(kind + 1) if name_of(book, units[other]) == name_of(book, units[kind]))
                      for kind in range(book.kinds)]
            self.same(like_kinds(book), tuple(wanted))


class TableOf(Refusals):

    def test_tables(self):
        self.same(table_of(2, ((3, (1, 2)),)), ((1, 1), (0, 3)))
        self.same(table_of(2, ()), ((1, 0), (0, 1)))
        self.same(table_of(2, ((0, (1, 2)),)), ((2, -1),))
        self.same(table_of(2, ((0, (1, 2)), (0, (0, 1)))), ())
        self.same(table_of(2, ((0, (0, 0)), (5, (10, -5)))), ((1, 0), (0, 1)))
        self.same(table_of(kinds=1, value=((4, (2,)), (9, (6,)))), ((6,),))
        self.same(table_of(3, ((2, (1, 1, 1)), (0, (1, 0, -1)))), ((1, 0, 1), (0, 2, 0)))
        self.same(table_of(6, ((7, (1, 2, 3, 4, 5, 6)),)), ((1, 0, 0, 0, 0, 1), (0, 1, 0, 0, 0, 2), (0, 0, 1, 0, 0, 3),
                                                           (0, 0, 0, 1, 0, 4), (0, 0, 0, 0, 1, 5), (0, 0, 0, 0, 0, 7)))

    def test_thirty_digits(self):
        self.same(table_of(2, ((HUGE, (1, -1)),)), ((1, 1), (0, HUGE)))
        self.same(table_of(2, ((0, (HUGE, -3)),)), ((3, HUGE),))
        self.same(table_of(1, ((HUGE, (HUGE // 8,)),)), ((8,),))

    def test_rows_that_are_told_nought(self):
        values = [((modulus, first), (other, second)) for modulus in (0, 2, 6) for other in (0, 4, 9)
                  for first in ((1, 2, 3), (0, 2, -4), (5, 5, 5)) for second in ((1, 0, 1), (3, -3, 6))]
        for value in values:
            table = table_of(3, value)
            self.assertTrue(is_in_stairs(3, table))
            for row in product(range(-3, 4), (-4, -1, 0, 1, 2, 6), range(-3, 4)):
                self.assertEqual(is_signed_sum(table, row), not any(told_plainly(value, row)))

    def test_each_book(self):
        for book in BOOKS + (TWELVE, EIGHTS):
            self.same(table_of(book.kinds, naming(book)), signed_table(book))
            for pairs in other_namings(naming(book)):
                self.same(table_of(book.kinds, pairs), signed_table(book))

    def test_wrong_namings(self):
        for value, at in WRONG_NAMINGS:
            self.refused(InvalidGroup, at, table_of, 2, value)


class Translation(Refusals):

    def test_translations(self):
        self.same(translation(Book(1, [(1,)]), (), ()), ())
        for book in BOOKS:
            pairs = naming(book)
            for other in other_namings(pairs):
                for one, two in ((pairs, other), (other, pairs), (other, other)):
                    self.try_translation(book, one, two)
        pairs = naming(PAIRS)
        self.same(translation(book=PAIRS, one=pairs, other=pairs), translation(PAIRS, pairs, pairs))

    def try_translation(self, book, one, other):
        found = translation(book, one, other)
        self.assertTrue(type(found) is tuple and is_plain(found))
        self.assertEqual(len(found), len(one))
        for at, (row, hours) in enumerate(found):
            self.assertEqual(len(row), book.kinds)
            self.assertEqual(told_plainly(one, row), unit(len(one), at))
            self.assertEqual(hours, told_plainly(other, row))
        # What the second naming tells of any row is told by these hours.
        row = tuple(range(-2, book.kinds - 2))
        times = told_plainly(one, row)
        sums = [sum(time * hours[at] for time, (_, hours) in zip(times, found)) for at in range(len(other))]
        wanted = told_plainly(other, row)
        self.assertEqual(tuple(number % pair[0] if pair[0] else number for number, pair in zip(sums, other)), wanted)

    def test_wrong_namings(self):
        right = ((3, (1, 2)),)
        wrong = [value for value, _ in WRONG_NAMINGS] + [((3, (1, 1)),), ((3, (0, 0)),), ((6, (1, 5)),), ()]
        for value in wrong:
            self.refused(InvalidGroup, 0, translation, PAIRS, value, right)
            self.refused(InvalidGroup, 1, translation, PAIRS, right, value)
            self.refused(InvalidGroup, 0, translation, PAIRS, value, value)


if __name__ == "__main__":
    unittest.main()
