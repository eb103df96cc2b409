"""[52]: free tuples of hours of clocks."""

import unittest

from itertools import combinations, combinations_with_replacement, product

from noneleft.errors import InvalidGroup
from noneleft.free import is_free, longest_free
from noneleft.naming import hours_of
from noneleft.stuck import most_left
from noneleft.told import told_book
from refusals import Refusals
from trial import NO_SEQUENCES, NOTHING, Alike, Trial, crowds_up_to, is_plain, near_misses, unit

CLOCKS = [(2,), (3,), (4,), (5,), (6,), (7,), (8,), (9,), (10,), (11,), (12,), (2, 2), (2, 3), (3, 2), (2, 4), (4, 2), (2, 5), (5, 2), (2, 6),
          (6, 2), (3, 3), (3, 4), (4, 3), (2, 2, 2), (2, 2, 3), (2, 3, 2), (3, 2, 2), ()]


def is_free_plainly(clocks, entries):
    """Whether no choice of entries, one at least, sums to nought."""
    for many in range(1, len(entries) + 1):
        for chosen in combinations(entries, many):
            if not any(sum(hours) % modulus for hours, modulus in zip(zip(*chosen), clocks)):
                return False
    return True


def size_of(clocks):
    many = 1
    for modulus in clocks:
        many *= modulus
    return many


class Free(Refusals):

    def test_examples(self):
        self.assertIs(is_free((2, 2), ((0, 1), (1, 0))), True)
        self.assertIs(is_free(clocks=(2, 2), value=((0, 1), (1, 0), (1, 1))), False)
        self.assertIs(is_free((2, 2), ((1, 0), (0, 1))), False)
        self.assertIs(is_free((2, 2), ((0, 1), (0, 1))), False)
        self.assertIs(is_free((3,), ((1,), (1,))), True)
        self.assertIs(is_free((3,), ((1,), (2,))), False)
        self.assertIs(is_free((3,), ((0,),)), False)
        self.assertIs(is_free((3,), ((3,),)), False)
        self.assertIs(is_free((3,), ()), True)
        self.assertIs(is_free((), ()), True)
        self.assertIs(is_free((), ((),)), False)
        self.assertIs(is_free((12,), ((1,),) * 11), True)
        self.assertIs(is_free((12,), ((1,),) * 12), False)
        self.assertIs(is_free((12,), ((1,),) * 5000), False)
        self.assertIs(is_free((12,), ((1,),) * 10 + ((2,),)), False)

    def test_plainly(self):
        for clocks in CLOCKS:
            entries = list(product(*[range(modulus) for modulus in clocks]))
            for many in range(5 if len(entries) < 9 else 4):
                for value in combinations_with_replacement(entries, many):
                    self.assertIs(is_free(clocks, value), is_free_plainly(clocks, value))

    def test_order(self):
        for clocks in ((5,), (2, 4)):
            entries = list(product(*[range(modulus) for modulus in clocks]))
            for value in product(entries, repeat=3):
                self.assertIs(is_free(clocks, value), list(value) == sorted(value) and is_free_plainly(clocks, value))

    def test_no_free_tuples(self):
        for value in NOTHING + ([], [(1,)], ([1],), (1,), ((True,),), ((1.0,),), ((-1,),), ((3,),), ((4,),), ((1,), (4,)), ((1, 1),), ((1,), None), ((1,), ((1,),)),
                                ((1,), (True,)), ((),), (Alike(),), ((Alike(),),)):
            self.assertIs(is_free((3,), value), False, value)
        for value in near_misses(((0, 1), (1, 0))):
            fewer = value in (((0, 1),), ((1, 0),)) and is_plain(value)
            self.assertIs(is_free((2, 2), value), fewer, value)

    def test_refusals(self):
        for value in NO_SEQUENCES + ([], [2], [2, 3]):
            self.refused(InvalidGroup, 0, is_free, value, ())
            self.refused(InvalidGroup, 0, is_free, value, None)
            self.refused(InvalidGroup, 0, longest_free, value)
        for value in (True, False, None, 0, 1, -2, 2.0, "2", (2,), [2], Alike()):
            self.refused(InvalidGroup, 0, is_free, (value,), ())
            self.refused(InvalidGroup, 1, is_free, (2, value), None)
            self.refused(InvalidGroup, 2, longest_free, (2, 3, value))
            self.refused(InvalidGroup, 0, longest_free, (value, value))


class Longest(Refusals):

    def test_examples(self):
        self.assertEqual(len(longest_free((2, 2))), 2)
        self.assertEqual(len(longest_free(clocks=(12,))), 11)
        self.same(longest_free((2,)), ((1,),))
        self.same(longest_free(()), ())
        self.assertEqual(len(longest_free((2, 2, 3))), 6)
        self.assertEqual(len(longest_free((3, 4))), 11)

    def test_each(self):
        for clocks in CLOCKS:
            found = longest_free(clocks)
            self.assertTrue(type(found) is tuple and is_plain(found))
            self.assertIs(is_free(clocks, found), True)
            self.assertTrue(is_free_plainly(clocks, found))
            self.assertEqual(list(found), sorted(found))
            self.assertTrue(sum(modulus - 1 for modulus in clocks) <= len(found) < size_of(clocks))
            if len(found) == size_of(clocks) - 1:
                self.assertLessEqual(len(set(found)), 1)

    def test_none_is_longer(self):
        for clocks in CLOCKS:
            # One longer than the longest one is never free: all that are made of free ones by one entry more.
            if size_of(clocks) > 9:
                continue
            entries = list(product(*[range(modulus) for modulus in clocks]))
            free = [()]
            while free:
                many = len(free[0])
                free = [value + (entry,) for value in free for entry in entries if value == () or entry >= value[-1]]
                free = [value for value in free if is_free_plainly(clocks, value)]
            self.assertEqual(len(longest_free(clocks)), many)

    def test_stuck_crowds_of_told_books(self):
        for clocks in ((5,), (6,), (2, 2), (2, 4), (3, 3), (2, 2, 2)):
            hours = [entry for entry in product(*[range(modulus) for modulus in clocks])][1:4]
            value = tuple((modulus, tuple(entry[at] for entry in hours)) for at, modulus in enumerate(clocks))
            kinds = len(hours)
            book = told_book(kinds, value)
            trial = Trial(book)
            for crowd in crowds_up_to(kinds, 8):
                members = sorted(hours_of(kinds, value, unit(kinds, kind)) for kind, number in enumerate(crowd) for _ in range(number))
                self.assertIs(is_free(clocks, tuple(members)), trial.is_stuck(crowd))
            self.assertLessEqual(most_left(book), len(longest_free(clocks)))

    def test_several_clocks(self):
        once = [longest_free(clocks) for clocks in CLOCKS]
        self.assertEqual(once, [longest_free(clocks) for clocks in CLOCKS[::-1]][::-1])


if __name__ == "__main__":
    unittest.main()
