"""[40], [41], [43]: how many crowds have a name."""

import unittest
from math import comb, gcd, lcm

from noneleft.books import Book
from noneleft.counting import count_named, count_noughts, count_up_to, missing_sizes, period, sizes, starts
from noneleft.court import is_safe
from noneleft.errors import InvalidCrowd, Refused
from noneleft.naming import all_names, name_count, order_of
from noneleft.runs import is_clearable
from noneleft.tables import name_of, signed_table
from refusals import Refusals
from samples import BALANCES, BOOKS, CLOCKS, EIGHTS, MIXED, NONE, PAIRS, TWO_OF_EACH, UNSAFE
from test_court import SAFE
from trial import NO_INTEGERS, NO_SEQUENCES, crowds_of_size, is_plain, taken, unit

HUGE = 10 ** 18
# Without a period; with a period above 60, by few names.
NO_PERIOD = (NONE, BALANCES, MIXED, TWO_OF_EACH, Book(1, []), Book(6, []), Book(2, [(1, 1)]))
LONG = Book(2, [(1, 8), (8, 1)])
TURNS = [book for book in BOOKS if name_count(book) is not None and name_count(book) <= 200]
FEW = (PAIRS, UNSAFE, CLOCKS, Book(1, [(6,)]), Book(1, [(1,)]), Book(1, [(2,), (3,)]), Book(3, [(2, 0, 0), (0, 2, 0), (0, 0, 2)]),
       Book(3, [(1, 1, 0), (0, 1, 1), (1, 0, 1)]), Book(2, [(0, 2), (4, 0)]), Book(3, [(1, 2, 0), (0, 2, 4), (3, 0, 3)]),
       Book(2, [(0, 1), (5, 0)]), Book(4, [(2, 0, 0, 0), (0, 3, 0, 3), (4, 3, 0, 1), (0, 0, 1, 1)]))
# A period of just 60, and one of 61.
SIXTY, SIXTY_ONE = Book(2, [(4, 0), (1, 15)]), Book(1, [(61,)])


def counted(book, size, row):
    """How many crowds of this size have the name, one by one."""
    name = name_of(book, row)
    return sum(name_of(book, crowd) == name for crowd in crowds_of_size(book.kinds, size))


def some_rows(book):
    return [(0,) * book.kinds, unit(book.kinds, 0), unit(book.kinds, book.kinds - 1), (-3,) * book.kinds,
            tuple(range(book.kinds))]


class Periods(Refusals):

    def test_period(self):
        self.same(period(PAIRS), 3)
        self.same(period(book=CLOCKS), 4)
        self.same(period(EIGHTS), 8)
        self.same(period(Book(1, [(1,)])), 1)
        self.same(period(LONG), 63)
        self.same(period(SIXTY), 60)
        self.same(period(SIXTY_ONE), 61)
        for book in NO_PERIOD:
            self.assertIsNone(period(book))
        for book in BOOKS:
            orders = [order_of(book, unit(book.kinds, kind)) for kind in range(book.kinds)]
            self.assertEqual(period(book), None if None in orders else lcm(*orders))


class Counts(Refusals):

    def test_examples(self):
        self.same([count_noughts(PAIRS, size) for size in range(7)], [1, 0, 1, 2, 1, 2, 3])
        self.same(count_noughts(book=PAIRS, size=10 ** 6), 333333)
        self.same(count_named(book=PAIRS, size=2, row=[0, 2]), 1)
        self.same(count_named(PAIRS, 2, (1, 0)), 1)
        self.same(count_up_to(book=PAIRS, size=3, row=[0, 0]), 4)
        self.same(count_noughts(Book(1, [(1,)]), HUGE), 1)
        self.same(count_up_to(Book(1, [(1,)]), HUGE, (-5,)), HUGE + 1)
        self.same(count_noughts(Book(1, [(6,)]), HUGE), 0)
        self.same(count_up_to(Book(1, [(6,)]), HUGE, (4,)), (HUGE - 4) // 6 + 1)

    def test_small_sizes_of_each_book(self):
        for book in BOOKS:
            for size in range({1: 13, 2: 13, 3: 9, 4: 7}.get(book.kinds, 5)):
                for row in some_rows(book):
                    self.same(count_named(book, size, row), counted(book, size, row))
                    self.same(count_up_to(book, size, row), sum(counted(book, less, row) for less in range(size + 1)))
                self.same(count_noughts(book, size), counted(book, size, (0,) * book.kinds))
        self.same(count_noughts(EIGHTS, 12), 0)
        self.same(count_noughts(EIGHTS, 8), 6)
        self.same(count_named(EIGHTS, 12, (4,) + (0,) * 5), 6)
        self.same(count_noughts(Book(6, []), 12), 0)
        self.same(count_named(Book(6, []), 12, (2,) * 6), 1)
        self.same(count_up_to(Book(6, []), 12, (2,) * 6), 1)
        self.same(count_up_to(Book(6, []), 11, (2,) * 6), 0)

    def test_sizes_around_the_turn(self):
        # Up to 60 and above it crowds are counted in two ways.
        for book in FEW:
            if book.kinds < 3:
                for size in (13, 30, 57, 58, 59, 60, 61, 62, 63, 64, 65, 66, 100):
                    for row in some_rows(book):
                        self.same(count_named(book, size, row), counted(book, size, row))
            for row in some_rows(book):
                before = count_up_to(book, 56, row)
                for size in range(57, 67):
                    both = count_up_to(book, size, row)
                    self.same(both, before + count_named(book, size, row))
                    before = both
        for book in (FEW[6], FEW[7]):
            for size in (60, 61, 62):
                self.same(count_noughts(book, size), counted(book, size, (0, 0, 0)))

    def test_all_names_add_up(self):
        for book in FEW:
            for size in (0, 1, 7, 60, 61, 1000, HUGE):
                names = all_names(book)
                found = [count_named(book, size, name) for name in names]
                self.assertEqual(sum(found), comb(size + book.kinds - 1, book.kinds - 1))
                found = [count_up_to(book, size, name) for name in names]
                self.assertEqual(sum(found), comb(size + book.kinds, book.kinds))

    def test_huge_sizes(self):
        # a of the first kind and n - a of the second one come to nought if 2 a - n is divided by 3.
        for size in (HUGE, HUGE - 1, HUGE - 2, 61, 62, 63):
            rest = (2 * size) % 3
            self.same(count_noughts(PAIRS, size), (size - rest) // 3 + 1)
        for size in (HUGE, HUGE - 1, 1001):
            self.same(count_noughts(Book(2, [(0, 1), (5, 0)]), size), size // 5 + 1)
            self.same(count_named(Book(2, [(0, 1), (5, 0)]), size, (-1, 9)), (size - 4) // 5 + 1)

    def test_a_period_of_sixty(self):
        self.assertEqual(name_count(SIXTY), 60)
        for size in (59, 60, 61, 121, 300):
            for row in ((0, 0), (1, 7), (-2, 0)):
                self.same(count_named(SIXTY, size, row), counted(SIXTY, size, row))
        self.assertEqual(sum(starts(SIXTY, (0, 0))), 60)
        self.assertEqual(len(starts(SIXTY, (0, 0))), 119)

    def test_safe_books(self):
        for book in SAFE:
            for size in range(7 if book.kinds < 4 else 3):
                clearable = sum(is_clearable(book, crowd) for crowd in crowds_of_size(book.kinds, size))
                self.assertEqual(count_noughts(book, size), clearable)
        for book in BOOKS:
            if book.kinds < 4:
                for size in range(7):
                    clearable = sum(is_clearable(book, crowd) for crowd in crowds_of_size(book.kinds, size))
                    self.assertLessEqual(clearable, count_noughts(book, size))

    def test_refusals(self):
        for function in (count_named, count_up_to):
            for size in (0, 60, 61, HUGE):
                for book in (PAIRS, MIXED, LONG, UNSAFE):
                    for value in NO_SEQUENCES:
                        self.refused(InvalidCrowd, 2, function, book, size, value)
                    for value in NO_INTEGERS:
                        self.refused(InvalidCrowd, 0, function, book, size, (value, value))
                        self.refused(InvalidCrowd, 1, function, book, size, [-1, value])
                    self.refused(InvalidCrowd, 2, function, book, size, (1,))
                    self.refused(InvalidCrowd, 2, function, book, size, (1, 1, 1))
            for book in NO_PERIOD:
                self.refused(Refused, 0, function, book, 61, (0,) * book.kinds)
                self.refused(Refused, 0, function, book, HUGE, (0,) * book.kinds)
                self.same(function(book, 3, (3,) + (0,) * (book.kinds - 1)), function(book, 3, [3] + [0] * (book.kinds - 1)))
            self.refused(Refused, 63, function, LONG, 61, (0, 0))
            self.refused(Refused, 63, function, LONG, HUGE, [1, 1])
            self.refused(Refused, 61, function, SIXTY_ONE, 61, (0,))
        for book in NO_PERIOD:
            self.refused(Refused, 0, count_noughts, book, 61)
        self.refused(Refused, 63, count_noughts, LONG, 61)
        self.refused(Refused, 61, count_noughts, SIXTY_ONE, HUGE)
        self.same(count_noughts(LONG, 60), counted(LONG, 60, (0, 0)))
        self.same(count_named(LONG, 60, (1, 3)), counted(LONG, 60, (1, 3)))
        self.same(count_up_to(LONG, 60, (1, 3)), sum(counted(LONG, size, (1, 3)) for size in range(61)))
        self.same(count_noughts(SIXTY_ONE, 60), 0)
        self.same(count_noughts(Book(2, [(1, 1)]), 60), 1)
        self.same(count_up_to(Book(2, [(1, 1)]), 60, (0, 0)), 31)


class Starts(Refusals):

    def test_examples(self):
        self.same(starts(PAIRS, (0, 0)), (1, 0, 1, 0, 1))
        self.same(starts(book=PAIRS, row=[0, 0]), (1, 0, 1, 0, 1))
        self.same(starts(PAIRS, (1, 0)), (0, 1, 1, 1, 0))
        self.same(starts(Book(1, [(1,)]), (-7,)), (1,))
        self.same(starts(Book(1, [(6,)]), (2,)), (0, 0, 1, 0, 0, 0))

    def test_each_book(self):
        for book in TURNS:
            turn = period(book)
            if turn > 60:
                continue
            for row in some_rows(book):
                found = starts(book, row)
                self.assertEqual(len(found), book.kinds * (turn - 1) + 1)
                self.assertTrue(is_plain(found))
                self.assertEqual(sum(found), turn ** book.kinds // name_count(book))
                if turn ** book.kinds < 3000:
                    name, wanted = name_of(book, row), [0] * len(found)
                    for size in range(len(found)):
                        for crowd in crowds_of_size(book.kinds, size):
                            if max(crowd) < turn and name_of(book, crowd) == name:
                                wanted[size] += 1
                    self.same(found, tuple(wanted))

    def test_refusals(self):
        for book in (PAIRS, MIXED, LONG):
            for value in NO_SEQUENCES:
                self.refused(InvalidCrowd, 2, starts, book, value)
            for value in NO_INTEGERS:
                self.refused(InvalidCrowd, 1, starts, book, (-1, value))
        for book in NO_PERIOD:
            self.refused(Refused, 0, starts, book, (0,) * book.kinds)
            self.refused(Refused, 0, sizes, book)
            self.refused(Refused, 0, missing_sizes, book)
        for book, turn in ((LONG, 63), (SIXTY_ONE, 61)):
            self.refused(Refused, turn, starts, book, (0,) * book.kinds)
            self.refused(Refused, turn, sizes, book)
            self.refused(Refused, turn, missing_sizes, book)


class Sizes(Refusals):

    def test_examples(self):
        self.same(sizes(PAIRS), (1, 2))
        self.same(missing_sizes(PAIRS), (1,))
        self.same(sizes(book=UNSAFE), (2, 0))
        self.same(missing_sizes(book=UNSAFE), ())
        self.same(sizes(Book(1, [(6,)])), (6, 0))
        self.same(missing_sizes(Book(1, [(6,)])), ())
        self.same(sizes(Book(1, [(1,)])), (1, 0))
        self.same(missing_sizes(Book(1, [(1,)])), ())
        self.same(sizes(Book(2, [(0, 1), (5, 0)])), (1, 0))
        # Names of one clock of modulus 7 with hours 1 and 3.
        self.same(sizes(Book(2, [(7, 0), (4, 1)])), (1, 5))
        self.same(missing_sizes(Book(2, [(7, 0), (4, 1)])), (1, 2, 4))

    def test_each_book(self):
        for book in TURNS:
            if period(book) > 60:
                continue
            step, least = sizes(book)
            self.assertTrue(is_plain((step, least)))
            most = least + 2 * period(book) + 2
            if book.kinds > 2:
                most = max(least + 1, 12)
            there = [size for size in range(most) if count_noughts(book, size) > 0]
            common = 0
            for row in signed_table(book):
                common = gcd(common, sum(row))
            self.assertEqual(step, common)
            self.assertTrue(all(size % step == 0 for size in there))
            gaps = tuple(size for size in range(0, most, step) if size not in there)
            self.same(missing_sizes(book), gaps)
            self.assertEqual(least, gaps[-1] + step if gaps else 0)

    def test_long_periods(self):
        for book, turn in ((SIXTY, 60), (Book(2, [(5, 4), (0, 12)]), 60), (Book(2, [(1, 7), (8, 2)]), 54), (Book(1, [(60,)]), 60)):
            self.assertEqual(period(book), turn)
            step, least = sizes(book)
            there = [size for size in range(0, 4 * turn, step) if count_noughts(book, size)]
            gaps = tuple(size for size in range(0, 4 * turn, step) if size not in there)
            self.same(missing_sizes(book), gaps)
            self.assertEqual(least, gaps[-1] + step if gaps else 0)
        self.assertTrue(len(missing_sizes(Book(2, [(1, 7), (8, 2)]))) > 5)


class Beside(Refusals):

    def test_several_books(self):
        once = [(period(book), count_noughts(book, 30), count_up_to(book, 70, (0,) * book.kinds), sizes(book)) for book in FEW]
        again = [(period(book), count_noughts(book, 30), count_up_to(book, 70, (0,) * book.kinds), sizes(book))
                 for book in reversed(FEW)]
        self.assertEqual(once, again[::-1])


if __name__ == "__main__":
    unittest.main()
