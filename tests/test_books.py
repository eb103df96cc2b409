"""[1], [2], [5], [6]: books and crowds."""

from collections import namedtuple
from itertools import permutations, product
from types import SimpleNamespace

import unittest

from noneleft.books import Book, checked_crowd, fits, fitting, least_batches
from noneleft.errors import InvalidBook, InvalidCrowd, InvalidRun
from refusals import Refusals
from trial import NO_NUMBERS, NO_SEQUENCES, Alike, Trial, crowds_up_to, is_plain, unit, within

PAIRS = Book(2, [(0, 3), (1, 1), (3, 0)])


class Books(Refusals):

    def test_attributes(self):
        book = Book(2, [(3, 0), (0, 3), (1, 1)])
        self.same(book.kinds, 2)
        self.same(book.batches, ((0, 3), (1, 1), (3, 0)))

    def test_any_order_as_a_list_or_a_tuple(self):
        for order in permutations([(0, 3), (1, 1), (3, 0), (1, 0)]):
            for batches in (list(order), tuple(order)):
                self.same(Book(2, batches).batches, ((0, 3), (1, 0), (1, 1), (3, 0)))
                self.assertEqual(Book(2, batches), Book(2, sorted(order)))

    def test_ascending_is_the_order_of_tuples(self):
        self.same(Book(3, [(1, 0, 0), (0, 2, 9), (0, 10, 0), (0, 0, 11), (0, 2, 1)]).batches,
                  ((0, 0, 11), (0, 2, 1), (0, 2, 9), (0, 10, 0), (1, 0, 0)))

    def test_no_batches(self):
        for batches in ([], ()):
            for kinds in (1, 6):
                self.same(Book(kinds, batches).batches, ())
                self.same(Book(kinds, batches).kinds, kinds)

    def test_one_kind_six_kinds_and_twelve_batches(self):
        self.same(Book(1, [(8,), (3,)]).batches, ((3,), (8,)))
        six = [unit(6, kind) for kind in range(6)]
        twelve = six + [tuple(2 * number for number in batch) for batch in six]
        self.same(Book(6, twelve).batches, tuple(sorted(twelve)))
        self.assertEqual(len(Book(6, twelve).batches), 12)

    def test_batches_of_any_size(self):
        huge = 10 ** 40
        self.same(Book(2, [(huge, 0), (8, 0), (99, 1)]).batches, ((8, 0), (99, 1), (huge, 0)))

    def test_named_arguments(self):
        self.assertEqual(Book(kinds=1, batches=[(2,)]), Book(1, [(2,)]))
        self.assertEqual(Book(batches=((2,),), kinds=1), Book(1, [(2,)]))

    def test_later_changes_have_no_effect(self):
        batches = [(3, 0), (0, 3)]
        book = Book(2, batches)
        self.assertEqual(batches, [(3, 0), (0, 3)])
        batches.append((1, 1))
        batches[0] = (5, 5)
        self.same(book.batches, ((0, 3), (3, 0)))

    def test_whatever_is_a_tuple(self):
        named = namedtuple("Named", "one other")
        self.same(Book(2, [(2, 2), named(0, 3)]).batches, ((0, 3), (2, 2)))
        self.same(checked_crowd(PAIRS, named(5, 6)), (5, 6))
        self.refused(InvalidBook, 2, Book, 2, [(2, 2), named(2, 2)])

    def test_equal(self):
        self.assertTrue(Book(2, [(1, 1)]) == Book(2, ((1, 1),)))
        self.assertFalse(Book(2, [(1, 1)]) != Book(2, ((1, 1),)))
        for other in (Book(2, []), Book(2, [(1, 1), (2, 2)]), Book(2, [(1, 2)]), Book(1, [(1,)])):
            self.assertFalse(Book(2, [(1, 1)]) == other)
            self.assertTrue(Book(2, [(1, 1)]) != other)
        self.assertFalse(Book(1, []) == Book(2, []))

    def test_equal_to_nothing_of_another_kind(self):
        book = Book(2, [(1, 1)])
        lookalike = SimpleNamespace(kinds=2, batches=((1, 1),))
        for other in (None, 0, 2, (2, ((1, 1),)), ((1, 1),), [(1, 1)], "kinds 2\n1 1", lookalike, object(), Book):
            self.assertFalse(book == other)
            self.assertFalse(other == book)
            self.assertTrue(book != other)

    def test_wrong_kinds(self):
        for kinds in NO_NUMBERS + (0, -3):
            if kinds != 1 or type(kinds) is not int:
                self.refused(InvalidBook, 0, Book, kinds, [])
                self.refused(InvalidBook, 0, Book, kinds, [(1,)])

    def test_no_sequence(self):
        for batches in NO_SEQUENCES:
            self.refused(InvalidBook, 1, Book, 2, batches)

    def test_wrong_kinds_come_first(self):
        self.refused(InvalidBook, 0, Book, 0, None)
        self.refused(InvalidBook, 0, Book, True, [(1,)])
        self.refused(InvalidBook, 0, Book, "2", [(1, 1), (1, 1)])

    def test_wrong_batches(self):
        right = [(1, 1), (3, 0)]
        wrong = [[1, 2], (0, 0), (1,), (1, 2, 3), (), (-1, 2), (3, -1), (True, 2), (2, False), (1.0, 2), ("1", 2),
                 (1, None), None, 5, "12", b"12", {1, 2}, {1: 2}, ((1, 2),), ((1,), 2), (Alike(), 1), Alike(), [0, 0],
                 range(1, 3), object()]
        for entry in wrong:
            for at in range(3):
                entries = right[:at] + [entry] + right[at:]
                self.refused(InvalidBook, 1 + at, Book, 2, entries)
                self.refused(InvalidBook, 1 + at, Book, 2, tuple(entries))

    def test_the_first_wrong_batch(self):
        self.refused(InvalidBook, 2, Book, 2, [(1, 1), (0, 0), (2,), [1, 2]])
        self.refused(InvalidBook, 3, Book, 1, [(1,), (2,), (1,), (0,)])

    def test_batches_that_stand_there_before(self):
        self.refused(InvalidBook, 2, Book, 2, [(1, 1), (1, 1)])
        self.refused(InvalidBook, 4, Book, 2, [(1, 1), (2, 1), (3, 1), (2, 1), (1, 1)])
        self.refused(InvalidBook, 3, Book, 1, ((5,), (2,), (5,)))


class Crowds(Refusals):

    def test_right_crowds(self):
        for value in ((0, 0), [0, 0], (3, 1), [3, 1], (10 ** 50, 7), [0, 10 ** 50]):
            self.same(checked_crowd(PAIRS, value), tuple(value))
        self.same(checked_crowd(Book(1, []), [4]), (4,))
        self.same(checked_crowd(Book(6, []), [1, 2, 3, 4, 5, 6]), (1, 2, 3, 4, 5, 6))
        self.same(checked_crowd(book=PAIRS, value=[1, 2]), (1, 2))

    def test_arguments_stay(self):
        crowd = [2, 3]
        found = checked_crowd(PAIRS, crowd)
        fitting(PAIRS, crowd)
        fits(PAIRS, 0, crowd)
        self.assertEqual(crowd, [2, 3])
        crowd[0] = 9
        self.same(found, (2, 3))

    def test_no_sequence(self):
        for value in NO_SEQUENCES:
            self.crowd_refused(2, PAIRS, value)
            self.crowd_refused(5, Book(5, []), value)

    def test_wrong_entries(self):
        for entry in NO_NUMBERS:
            if type(entry) is not int or entry < 0:
                self.crowd_refused(0, PAIRS, (entry, 1))
                self.crowd_refused(1, PAIRS, [1, entry])
                self.crowd_refused(0, PAIRS, (entry, entry))
                self.crowd_refused(0, PAIRS, [entry])
                self.crowd_refused(2, PAIRS, (1, 2, entry))
                self.crowd_refused(3, PAIRS, (1, 2, 3, entry))
                self.crowd_refused(4, PAIRS, [1, 2, 3, 4, entry, 5, entry])

    def test_only_the_length_is_wrong(self):
        for value in ((), [], (1,), [1, 2, 3], (1, 2, 3, 4)):
            self.crowd_refused(2, PAIRS, value)
        self.crowd_refused(1, Book(1, [(2,)]), (1, 1))
        self.crowd_refused(6, Book(6, []), (1, 1, 1, 1, 1))

    def crowd_refused(self, at, book, value):
        self.refused(InvalidCrowd, at, checked_crowd, book, value)
        self.refused(InvalidCrowd, at, fitting, book, value)
        if book.batches:
            self.refused(InvalidCrowd, at, fits, book, 0, value)


class Fits(Refusals):

    def test_fits(self):
        self.assertIs(fits(PAIRS, 0, (0, 3)), True)
        self.assertIs(fits(PAIRS, 0, (5, 2)), False)
        self.assertIs(fits(PAIRS, 1, [1, 1]), True)
        self.assertIs(fits(PAIRS, 1, [7, 0]), False)
        self.assertIs(fits(PAIRS, 2, (10 ** 40, 0)), True)
        self.assertIs(fits(PAIRS, 2, (2, 10 ** 40)), False)
        self.assertIs(fits(book=PAIRS, batch=2, crowd=(3, 0)), True)

    def test_fitting(self):
        self.same(fitting(PAIRS, (3, 3)), (0, 1, 2))
        self.same(fitting(PAIRS, [2, 3]), (0, 1))
        self.same(fitting(PAIRS, (2, 0)), ())
        self.same(fitting(PAIRS, (0, 0)), ())
        self.same(fitting(PAIRS, (0, 10 ** 40)), (0,))
        self.same(fitting(Book(3, []), (5, 5, 5)), ())
        self.same(fitting(book=PAIRS, crowd=(1, 1)), (1,))

    def test_each_crowd(self):
        for book in (PAIRS, Book(3, [(1, 0, 2), (0, 2, 0), (2, 2, 2), (1, 0, 1)]), Book(1, [(2,), (3,)])):
            for crowd in product(range(4), repeat=book.kinds):
                wanted = tuple(at for at, batch in enumerate(book.batches) if within(batch, crowd))
                self.same(fitting(book, crowd), wanted)
                for at in range(len(book.batches)):
                    self.assertIs(fits(book, at, crowd), at in wanted)

    def test_no_index(self):
        for batch in NO_NUMBERS + (3, 100, [0], (0,)):
            if batch != 1 or type(batch) is not int:
                self.refused(InvalidRun, 0, fits, PAIRS, batch, (3, 3))
        self.refused(InvalidRun, 0, fits, Book(2, []), 0, (3, 3))

    def test_the_index_comes_first(self):
        for crowd in (None, (1,), (1, -1), [True, 1]):
            self.refused(InvalidRun, 0, fits, PAIRS, 3, crowd)
            self.refused(InvalidRun, 0, fits, PAIRS, True, crowd)


class LeastBatches(Refusals):

    def test_batches_that_hold_others(self):
        self.same(least_batches(Book(2, [(1, 1), (2, 1), (0, 3), (1, 3), (5, 0)])).batches, ((0, 3), (1, 1), (5, 0)))
        self.same(least_batches(Book(1, [(2,), (3,), (8,)])).batches, ((2,),))
        self.same(least_batches(Book(2, [(1, 2), (2, 2), (3, 2)])).batches, ((1, 2),))
        self.assertEqual(least_batches(PAIRS), PAIRS)
        self.assertEqual(least_batches(book=Book(4, [])), Book(4, []))
        self.assertIs(type(least_batches(PAIRS)), Book)

    def test_both_have_the_same_stuck_crowds(self):
        for book in (Book(2, [(1, 1), (2, 1), (0, 3), (1, 3), (5, 0)]), Book(3, [(1, 1, 0), (1, 1, 1), (0, 2, 2)]),
                     Book(2, [(2, 2), (4, 4), (1, 5)])):
            least = least_batches(book)
            self.assertEqual(least.kinds, book.kinds)
            self.assertTrue(is_plain(least.batches))
            self.assertTrue(set(least.batches) <= set(book.batches))
            for one in least.batches:
                self.assertFalse(any(one != other and within(other, one) for other in book.batches))
            for crowd in crowds_up_to(book.kinds, 7):
                self.assertEqual(Trial(book).is_stuck(crowd), Trial(least).is_stuck(crowd))

    def test_the_book_stays(self):
        book = Book(1, [(2,), (4,)])
        least_batches(book)
        self.assertEqual(book, Book(1, [(2,), (4,)]))


if __name__ == "__main__":
    unittest.main()
