"""[49], [50]: books that are made of a naming, and kinds that are idle by one."""

import unittest

from functools import lru_cache
from itertools import product

from noneleft.books import Book, least_batches
from noneleft.court import is_safe
from noneleft.errors import InvalidGroup
from noneleft.naming import is_naming, naming, table_of
from noneleft.runs import is_clearable
from noneleft.tables import is_nought
from noneleft.told import idle_kinds, is_telling, standing_crowd, told_book, telling, weights
from refusals import Refusals
from samples import BALANCES, BOOKS, MIXED, PAIRS, UNSAFE
from test_court import SAFE, WRONG
from trial import (NO_INTEGERS, NOTHING, Trial, crowds_of_size, crowds_up_to, is_plain, near_misses, taken, unit,
                   within)

THREES = ((3, (1, 1)),)
# What is no naming for two kinds, with the index that is told of it.
NO_NAMINGS = [(value, 0) for value in (None, True, 0, 3, "", "ab", {}, [], [(3, (1, 1))], (None,), ((),), ((3,),), ([3, (1, 1)],),
                                       ((3, (1, 1), 0),), ((3, [1, 1]),), ((3, (1,)),), ((3, (1, 1, 1)),), ((1, (1, 1)),),
                                       ((-2, (1, 1)),), ((True, (1, 1)),), ((3.0, (1, 1)),), ((3, (1, True)),), ((3, (1.0, 1)),),
                                       ((0, (1, "1")),), (3, (1, 1)))]
NO_NAMINGS += [(((3, (1, 1)), value), 1) for value in (None, 3, (), (1, (1, 1)), (0, (1,)), [2, (0, 1)])]


def namings(kinds):
    """Namings of many sorts for so many kinds, small enough to try out plainly."""
    found = [()]
    for modulus in range(2, 8 if kinds < 3 else 5):
        found += [((modulus, hours),) for hours in product(range(modulus), repeat=kinds)][::1 if kinds < 3 else 5]
    found += [((0, hours),) for hours in product(range(-2, 3), repeat=kinds)][::1 if kinds < 3 else 4]
    for moduli in ((2, 2), (2, 3), (3, 3), (2, 2, 2), (4, 2), (0, 2), (3, 0), (0, 0), (0, 4), (2, 0, 2)):
        choices = [range(-2, 3) if modulus == 0 else range(modulus) for modulus in moduli for _ in range(kinds)]
        every = list(product(*choices))
        for hours in every[::1 + len(every) // 60]:
            found.append(tuple((modulus, hours[at * kinds:at * kinds + kinds]) for at, modulus in enumerate(moduli)))
    # Hours that are not from 0 to one less than the modulus.
    found += [((5, tuple(range(-7, kinds - 7))),), ((3, taken(10 ** 29, range(1, kinds + 1))), (2, (-1,) * kinds))]
    return found


NAMINGS = {kinds: namings(kinds) for kinds in (1, 2, 3)}
NAMINGS[4] = [((0, (2, -1, -2, 1)),), ((0, (1, -2, 2, -1)), (0, (2, 1, -1, -2))), ((0, (2, 2, -1, 0)), (4, (1, 2, 3, 1))), ((2, (1, 1, 0, 1)), (2, (0, 1, 1, 1))),
              ((3, (1, 2, 1, 0)),), ((0, (1, 1, 2, 0)), (0, (0, -1, 1, 1))), ((0, (0, 1, 0, 0)), (2, (1, 0, 1, 1)))]


def is_nought_by(value, crowd):
    """Whether the naming tells 0 of the crowd for each pair."""
    for modulus, hours in value:
        total = sum(number * hour for number, hour in zip(crowd, hours))
        if total % modulus if modulus else total:
            return False
    return True


# By namings of so many kinds least crowds of at most so many members are looked for, one by one.
MOST = {1: 30, 2: 16, 3: 12, 4: 10}


@lru_cache(None)
def told_plainly(kinds, value):
    """All least crowds that come to nought, of at most so many members."""
    found = []
    for crowd in crowds_up_to(kinds, MOST[kinds]):
        if any(crowd) and is_nought_by(value, crowd) and not any(within(other, crowd) for other in found):
            found.append(crowd)
    return tuple(sorted(found))


class ToldBooks(Refusals):

    def test_examples(self):
        self.same(told_book(2, ((3, (1, 1)),)).batches, ((0, 3), (1, 2), (2, 1), (3, 0)))
        self.assertEqual(told_book(kinds=2, value=((3, (1, 2)),)), PAIRS)
        self.assertEqual(told_book(3, ((0, (1, -1, 0)), (0, (0, 1, -1)))), BALANCES)
        self.assertEqual(told_book(1, ((12, (1,)),)), Book(1, [(12,)]))
        self.assertEqual(told_book(2, ()), Book(2, [(0, 1), (1, 0)]))
        self.assertEqual(told_book(2, ((0, (1, 1)),)), Book(2, []))
        self.assertEqual(told_book(2, ((0, (2, -1)), (2, (1, 0)))), Book(2, [(2, 4)]))
        self.assertEqual(told_book(2, ((0, (2, -1)), (2, (1, 0)))), MIXED)
        self.assertEqual(told_book(1, ((0, (0,)),)), Book(1, [(1,)]))

    def test_plainly(self):
        for kinds, values in NAMINGS.items():
            for value in values:
                book = told_book(kinds, value)
                self.assertEqual(book.kinds, kinds)
                small = tuple(batch for batch in book.batches if sum(batch) <= MOST[kinds])
                self.same(small, told_plainly(kinds, value))
                for batch in book.batches:
                    self.assertTrue(is_nought_by(value, batch))
                self.assertEqual(least_batches(book), book)

    def test_safe(self):
        tried = 0
        for kinds, values in NAMINGS.items():
            for value in values[::3]:
                book = told_book(kinds, value)
                if len(book.batches) <= 8 and all(sum(batch) <= 6 for batch in book.batches):
                    self.assertTrue(is_safe(book))
                    tried += 1
                for crowd in crowds_up_to(kinds, 7 if kinds < 3 else 4):
                    self.assertEqual(is_clearable(book, crowd), is_nought_by(value, crowd))
        self.assertGreater(tried, 200)

    def test_one_clock(self):
        for modulus in range(2, 13):
            for hours in ((1, 1, 1, 1), (1, 2, 3, 5), (modulus - 1, 1, 2, 0)):
                book = told_book(4, ((modulus, hours),))
                self.assertTrue(all(sum(batch) <= modulus for batch in book.batches))
                trial = Trial(book)
                for crowd in crowds_of_size(4, modulus):
                    self.assertFalse(trial.is_stuck(crowd))
        self.assertEqual(len(told_book(4, ((12, (1, 1, 1, 1)),)).batches), 455)

    def test_one_balance(self):
        for hours in product(range(-2, 3), repeat=4):
            if min(hours) < 0 < max(hours):
                book = told_book(4, ((0, hours),))
                self.assertTrue(all(sum(batch) <= max(hours) - min(hours) for batch in book.batches))
                wanted = []
                for crowd in crowds_up_to(4, 4):
                    if any(crowd) and is_nought_by(((0, hours),), crowd) and not any(within(other, crowd) for other in wanted):
                        wanted.append(crowd)
                self.same(book.batches, tuple(sorted(wanted)))

    def test_two_balances_of_four_kinds(self):
        for at, hours in enumerate(product(range(-2, 3), repeat=8)):
            if at % 1009 == 0:
                value = ((0, hours[:4]), (0, hours[4:]))
                book = told_book(4, value)
                # Whatever comes to nought holds a batch, and no batch holds another one.
                self.assertEqual(least_batches(book), book)
                for size in range(1, 14):
                    for crowd in crowds_of_size(4, size):
                        if is_nought_by(value, crowd):
                            self.assertTrue(any(within(batch, crowd) for batch in book.batches))
                self.assertTrue(all(is_nought_by(value, batch) for batch in book.batches))

    def test_refusals(self):
        for value, at in NO_NAMINGS:
            for function in (told_book, idle_kinds, standing_crowd, weights):
                self.refused(InvalidGroup, at, function, 2, value)
        for value in NO_INTEGERS:
            self.refused(InvalidGroup, 0, told_book, 2, ((3, (1, value)),))
            self.refused(InvalidGroup, 1, told_book, 2, ((3, (1, 2)), (value, (1, 2))))


class Telling(Refusals):

    def test_examples(self):
        self.assertIs(is_telling(PAIRS, ((3, (1, 2)),)), True)
        self.assertIs(is_telling(book=PAIRS, value=((3, (2, 1)),)), True)
        self.assertIs(is_telling(PAIRS, ((3, (1, 1)),)), False)
        self.assertIs(is_telling(PAIRS, ((3, (1, 2)), (3, (-1, 4)))), True)
        self.assertIs(is_telling(PAIRS, ((0, (1, -1)),)), False)
        self.assertIs(is_telling(PAIRS, ()), False)
        self.assertIs(is_telling(Book(2, [(0, 1), (1, 0)]), ()), True)
        self.assertIs(is_telling(Book(2, []), ((0, (1, 1)),)), True)
        self.assertIs(is_telling(Book(2, []), ((0, (1, -1)),)), False)
        self.assertIs(is_telling(Book(1, []), ((0, (1,)),)), True)
        self.assertIs(is_telling(Book(1, [(6,)]), ((2, (1,)), (3, (1,)))), True)
        # The second kind is idle, so its hours by the clock do not matter.
        self.assertIs(is_telling(Book(2, [(2, 0)]), ((0, (0, 1)), (2, (1, 1)))), True)
        self.assertIs(is_telling(Book(2, [(2, 0)]), ((0, (0, -2)), (2, (1, 0)))), True)
        self.assertIs(is_telling(Book(2, [(2, 0)]), ((2, (1, 1)),)), False)
        self.assertIs(is_telling(UNSAFE, ((2, (1, 1)),)), False)
        # A batch that holds another one.
        self.assertIs(is_telling(Book(1, [(2,), (4,)]), ((2, (1,)),)), False)

    def test_plainly(self):
        for kinds in (1, 2, 3):
            values = NAMINGS[kinds][::3 if kinds < 3 else 7]
            books = {told_plainly(kinds, value): None for value in values[::2]}
            there = 0
            for batches in books:
                book = Book(kinds, batches)
                if max([sum(batch) for batch in batches] + [0]) <= 8:
                    for value in values:
                        wanted = told_plainly(kinds, value) == batches
                        self.assertIs(is_telling(book, value), wanted, (batches, value))
                        there += wanted
            self.assertGreater(there, 10)

    def test_books_of_many_batches(self):
        for kinds, value in ((4, ((12, (1, 2, 3, 5)),)), (4, ((12, (1, 1, 1, 1)),)), (3, ((11, (1, 3, 7)),)),
                             (4, ((2, (1, 0, 1, 1)), (6, (1, 2, 3, 5)))), (4, ((0, (1, -2, 2, -1)), (4, (1, 2, 3, 1))))):
            book = told_book(kinds, value)
            self.assertIs(is_telling(book, value), True)
            self.assertIs(is_telling(Book(kinds, book.batches[1:]), value), False)
            self.assertIs(is_telling(Book(kinds, book.batches[:-1]), value), False)

    def test_each_book(self):
        for book in SAFE + WRONG + BOOKS:
            if len(book.batches) > 8 or any(sum(batch) > 6 for batch in book.batches):
                continue
            found = telling(book)
            if is_safe(book) and least_batches(book) == book:
                self.assertTrue(is_plain(found))
                self.assertTrue(all(is_nought_by(found, batch) for batch in book.batches))
                if book.kinds < 4:
                    small = tuple(batch for batch in book.batches if sum(batch) <= MOST[book.kinds])
                    self.same(told_plainly(book.kinds, found), small)
                self.assertIs(is_telling(book, found), True)
                self.assertIs(is_telling(book, naming(book)), True)
            else:
                self.assertIsNone(found)
                self.assertIs(is_telling(book, naming(book)), False)
        self.assertEqual(told_book(2, telling(book=PAIRS)), PAIRS)

    def test_told_books(self):
        for kinds, values in NAMINGS.items():
            for value in values[::5]:
                book = told_book(kinds, value)
                if len(book.batches) <= 8 and all(sum(batch) <= 6 for batch in book.batches):
                    self.assertEqual(told_book(kinds, telling(book)), book)
                    self.assertIs(is_telling(book, value), True)
                    self.assertIs(is_naming(book, value) and not is_telling(book, value), False)

    def test_nothing_is_refused(self):
        for value in NOTHING + tuple(value for value, _ in NO_NAMINGS):
            self.assertIs(is_telling(PAIRS, value), False, value)
        for value in near_misses(((3, (1, 2)),)):
            twice = type(value) is tuple and len(value) == 2 and value[0] == value[1]
            self.assertIs(is_telling(PAIRS, value), twice, value)


class IdleKinds(Refusals):

    def test_examples(self):
        self.same(idle_kinds(3, ((0, (1, -2, 0)), (0, (0, 0, 1)))), (2,))
        self.same(idle_kinds(kinds=2, value=((0, (1, 2)),)), (0, 1))
        self.same(idle_kinds(2, ((0, (1, -2)),)), ())
        self.same(idle_kinds(4, ((0, (1, 1, -1, 0)), (0, (0, -1, 0, 0)))), (1,))
        self.same(idle_kinds(4, ((0, (1, 1, -1, 0)), (0, (1, -1, 1, 0)))), (0,))
        self.same(idle_kinds(1, ()), ())
        self.same(standing_crowd(1, ((0, (1,)),)), (0,))
        self.same(weights(kinds=1, value=((5, (1,)), (0, (0,)))), (0, 0))

    def test_plainly(self):
        for kinds, values in NAMINGS.items():
            for value in values:
                idle = tuple(kind for kind in range(kinds) if not any(batch[kind] for batch in told_plainly(kinds, value)))
                if kinds == 4:
                    idle = tuple(kind for kind in range(kinds) if not any(batch[kind] for batch in told_book(kinds, value).batches))
                self.same(idle_kinds(kinds, value), idle)
                self.try_crowd(kinds, value, idle, standing_crowd(kinds, value))
                self.try_weights(kinds, value, idle, weights(kinds, value))

    def try_crowd(self, kinds, value, idle, crowd):
        self.assertTrue(is_plain(crowd) and len(crowd) == kinds and min(crowd) >= 0)
        self.assertTrue(is_nought_by(value, crowd))
        self.assertEqual(tuple(kind for kind in range(kinds) if crowd[kind] == 0), idle)

    def try_weights(self, kinds, value, idle, found):
        self.assertTrue(is_plain(found) and len(found) == len(value))
        for (modulus, _), number in zip(value, found):
            self.assertTrue(modulus == 0 or number == 0)
        for kind in range(kinds):
            total = sum(number * hours[kind] for (_, hours), number in zip(value, found))
            self.assertTrue(total > 0 if kind in idle else total == 0)

    def test_two_balances_of_four_kinds(self):
        for at, hours in enumerate(product(range(-2, 3), repeat=8)):
            if at % 211 == 0:
                value = ((0, hours[:4]), (0, hours[4:]))
                batches = told_book(4, value).batches
                idle = tuple(kind for kind in range(4) if not any(batch[kind] for batch in batches))
                self.same(idle_kinds(4, value), idle)
                self.try_crowd(4, value, idle, standing_crowd(4, value))
                self.try_weights(4, value, idle, weights(4, value))

    def test_no_clock_makes_idle(self):
        for kinds in (1, 2, 3):
            for value in NAMINGS[kinds]:
                if all(modulus for modulus, _ in value):
                    self.same(idle_kinds(kinds, value), ())
                    self.same(weights(kinds, value), (0,) * len(value))

    def test_signed_sums_of_told_books(self):
        for kinds in (1, 2, 3):
            for value in NAMINGS[kinds][::4]:
                book, idle = told_book(kinds, value), idle_kinds(kinds, value)
                for row in product(range(-2, 3), repeat=kinds):
                    if not any(row[kind] for kind in idle):
                        self.assertEqual(is_nought(book, row), is_nought_by(value, row))

    def test_namings_of_one_book(self):
        for values in (NAMINGS[2][::5], NAMINGS[3][::17]):
            kinds = len(values[1][0][1])
            asked = []
            for value in values:
                idle = idle_kinds(kinds, value)
                others = value + tuple((0, unit(kinds, kind)) for kind in idle)
                asked.append((told_book(kinds, value), idle, table_of(kinds, others)))
            for one, idle, table in asked:
                for other, idle_too, table_too in asked:
                    self.assertEqual(one == other, (idle, table) == (idle_too, table_too))


class Beside(Refusals):

    def test_several_namings(self):
        def asked(value):
            return told_book(2, value).batches, idle_kinds(2, value), standing_crowd(2, value), weights(2, value)
        once = [asked(value) for value in NAMINGS[2][::9]]
        self.assertEqual(once, [asked(value) for value in NAMINGS[2][::9][::-1]][::-1])


if __name__ == "__main__":
    unittest.main()
