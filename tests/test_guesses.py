"""[47], [48]: what all safe books that agree with sights have in common, and when nothing is open any more."""

import unittest

from functools import lru_cache

from noneleft.books import Book
from noneleft.errors import InvalidCrowd, Refused
from noneleft.guesses import is_settled, may_be_left, open_crowd, standing, sure_batches
from noneleft.naming import name_count
from noneleft.runs import all_ends
from noneleft.sights import Sights, fitting_naming, seen_book, with_sight
from noneleft.tables import signed_table
from noneleft.told import told_book
from refusals import Refusals
from samples import PAIRS
from test_court import SAFE
from test_sights import SEEN, SIGHTS, gone_of, some_safe_agrees, stayed_of, tells_nothing
from trial import (NO_NUMBERS, NO_SEQUENCES, Trial, box, crowds_of_size, crowds_up_to, is_plain, is_signed_sum, taken, unit,
                   within, without)

MOST = 8


def tables(kinds):
    """Tables in stairs of one or two kinds: enough of them for crowds of up to four members."""
    if kinds == 1:
        return [()] + [((step,),) for step in range(1, 40)]
    found = [()] + [((0, step),) for step in range(1, 9)]
    found += [((step, own),) for step in range(1, 9) for own in range(-8, 9)]
    found += [((step, own), (0, last)) for step in range(1, 17) for last in range(1, 17 // step + 1) for own in range(last)]
    return found


def is_sum(table, row):
    """Whether the row is a signed sum of a table in stairs of one or two kinds."""
    for step in table:
        at = [number != 0 for number in step].index(True)
        row = without(row, taken(row[at] // step[at], step))
    return not any(row)


@lru_cache(None)
def safe_trials(kinds):
    """Safe books, as far as batches of so many members at most can tell: all least crowds that are signed sums of a table."""
    found = []
    for table in tables(kinds):
        batches = []
        for crowd in crowds_up_to(kinds, MOST):
            if any(crowd) and is_sum(table, crowd) and not any(within(batch, crowd) for batch in batches):
                batches.append(crowd)
        found.append(Trial(Book(kinds, batches)))
    return found


def agreeing(sights):
    return [trial for trial in safe_trials(sights.kinds) if all(left in trial.ends(came) for came, left in sights.pairs)]


def word(cleared):
    return "sure" if all(cleared) else "open" if any(cleared) else "never"


SMALL = [sights for sights in SIGHTS if sights.kinds < 3 and all(sum(came) <= 5 for came, _ in sights.pairs)]
AGREED = [sights for sights in SIGHTS if fitting_naming(sights) is not None]
REFUTED = [sights for sights in SIGHTS if fitting_naming(sights) is None]


def standing_plainly(sights, crowd):
    """By signed sums alone, told by determinants."""
    batches = tuple(gone_of(sights))
    if is_signed_sum(batches, crowd):
        return "sure"
    never = any(is_signed_sum(batches + (crowd,), other) for other in stayed_of(sights))
    return "never" if never else "open"


class Standing(Refusals):

    def test_examples(self):
        self.same([standing(SEEN, crowd) for crowd in [(2, 2), (1, 0), (0, 3), (3, 0)]], ["sure", "never", "open", "open"])
        self.same(standing(sights=SEEN, crowd=[0, 0]), "sure")
        self.same(standing(SEEN, (0, 2)), "never")
        self.same(standing(SEEN, (5, 6)), "never")
        self.same(standing(Sights(1, []), (1,)), "open")
        self.same(standing(Sights(1, [((1,), (1,))]), (1,)), "never")
        self.same(standing(Sights(1, [((1,), (1,))]), (12,)), "open")
        self.same(standing(Sights(1, [((1,), (0,))]), (12,)), "sure")

    def test_each_safe_book_that_agrees(self):
        tried = set()
        for sights in SMALL:
            trials = agreeing(sights)
            if not trials:
                self.refused(Refused, 0, standing, sights, (0,) * sights.kinds)
                continue
            for crowd in crowds_up_to(sights.kinds, 4):
                wanted = word([trial.clears(crowd) for trial in trials])
                self.same(standing(sights, crowd), wanted)
                tried.add(wanted)
        self.assertEqual(tried, {"sure", "never", "open"})

    def test_by_signed_sums(self):
        for sights in AGREED:
            for crowd in crowds_up_to(sights.kinds, 6 if sights.kinds < 3 else 3):
                self.same(standing(sights, crowd), standing_plainly(sights, crowd))

    def test_never_to_be_cleared(self):
        for sights in AGREED:
            for crowd in crowds_up_to(sights.kinds, 4 if sights.kinds < 3 else 2):
                more = with_sight(sights, (crowd, (0,) * sights.kinds))
                self.assertEqual(standing(sights, crowd) == "never", not some_safe_agrees(more))

    def test_sixteen_sights_of_six_kinds(self):
        clock = ((29, (1, 3, 9, 27, 23, 11)),)
        stay = [crowd for crowd in crowds_of_size(6, 8)[::7] if not any(tells_nothing(clock, other) for other in list(box(crowd))[1:])]
        sights = Sights(6, [(crowd, crowd) for crowd in stay[-14:]] + [((0, 0, 2, 2, 0, 1), (0, 0, 0, 2, 0, 0)),
                                                                       ((1, 1, 1, 0, 1, 4), (0, 0, 0, 0, 0, 2))])
        self.assertEqual(len(sights.pairs), 16)
        self.assertTrue(some_safe_agrees(sights))
        for crowd in ((2, 2, 2, 2, 2, 2), (1, 1, 1, 0, 0, 0), (12, 0, 0, 0, 0, 0), (0, 0, 0, 0, 6, 6), (0, 0, 0, 2, 0, 1)):
            self.same(standing(sights, crowd), standing_plainly(sights, crowd))
        found = may_be_left(sights, (2, 2, 2, 2, 2, 2))
        for left in list(box((2,) * 6))[::40]:
            self.assertEqual(left in found, some_safe_agrees(with_sight(sights, ((2,) * 6, left))))
        self.assertTrue(is_plain(found))
        self.assertIn((0, 0, 2, 0, 0, 1), sure_batches(sights, 8))
        self.same(standing(sights, open_crowd(sights)), "open")
        self.assertIs(is_settled(sights), False)

    def test_refusals(self):
        for sights in REFUTED:
            for crowd in (None, (), (0,) * sights.kinds, [1] * sights.kinds, (-1,) * sights.kinds):
                self.refused(Refused, 0, standing, sights, crowd)
                self.refused(Refused, 0, may_be_left, sights, crowd)
            for size in (0, 1, 8):
                self.refused(Refused, 0, sure_batches, sights, size)
            self.refused(Refused, 0, is_settled, sights)
            self.refused(Refused, 0, open_crowd, sights)
        for function in (standing, may_be_left):
            for value in NO_SEQUENCES:
                self.refused(InvalidCrowd, 2, function, SEEN, value)
            for value in NO_NUMBERS:
                self.refused(InvalidCrowd, 0, function, SEEN, (value, 1))
                self.refused(InvalidCrowd, 1, function, SEEN, [1, value])
            for crowd in ((), (1,), (1, 1, 1)):
                self.refused(InvalidCrowd, 2, function, SEEN, crowd)


class MayBeLeft(Refusals):

    def test_examples(self):
        self.same(may_be_left(SEEN, (1, 0)), ((1, 0),))
        self.same(may_be_left(sights=SEEN, crowd=[2, 2]), ((0, 0),))
        self.same(may_be_left(SEEN, (0, 3)), ((0, 0), (0, 3)))
        self.same(may_be_left(Sights(1, []), (2,)), ((0,), (2,)))
        self.same(may_be_left(Sights(1, []), (5,)), ((0,), (1,), (2,), (5,)))
        self.same(may_be_left(Sights(1, []), (0,)), ((0,),))

    def test_each_safe_book_that_agrees(self):
        for sights in SMALL:
            trials = agreeing(sights)
            for crowd in crowds_up_to(sights.kinds, 4) if trials else ():
                wanted = set().union(*[trial.ends(crowd) for trial in trials])
                self.same(may_be_left(sights, crowd), tuple(sorted(wanted)))

    def test_with_the_sight(self):
        for sights in AGREED:
            for crowd in crowds_of_size(sights.kinds, 6)[::3] if sights.kinds < 3 else crowds_of_size(3, 3):
                wanted = tuple(left for left in box(crowd) if some_safe_agrees(with_sight(sights, (crowd, left))))
                found = may_be_left(sights, crowd)
                self.same(found, wanted)
                nobody = (0,) * sights.kinds
                if standing(sights, crowd) == "sure":
                    self.assertEqual(found, (nobody,))
                elif standing(sights, crowd) == "never":
                    self.assertNotIn(nobody, found)
                else:
                    self.assertTrue(nobody in found and len(found) > 1)


class SureBatches(Refusals):

    def test_examples(self):
        self.same(sure_batches(SEEN, 8), ((1, 1),))
        self.same(sure_batches(sights=SEEN, size=1), ())
        self.same(sure_batches(Sights(1, []), 8), ())
        self.same(sure_batches(SEEN, 0), ())
        self.same(sure_batches(Sights(1, [((1,), (0,))]), 3), ((1,),))
        self.same(sure_batches(Sights(1, [((2,), (0,)), ((1,), (1,))]), 8), ((2,),))
        self.same(sure_batches(Sights(1, [((2,), (0,))]), 8), ())
        # Of the sure crowds the smallest ones may be sums of batches of some of the safe books.
        self.same(sure_batches(Sights(2, [((2, 2), (0, 0)), ((1, 1), (1, 1))]), 8), ())

    def test_each_safe_book_that_agrees(self):
        there = 0
        for sights in SMALL:
            trials = agreeing(sights)
            for size in range(5) if trials else ():
                wanted = set(crowds_up_to(sights.kinds, size)).intersection(*[trial.batches for trial in trials])
                self.same(sure_batches(sights, size), tuple(sorted(wanted)))
                there += len(wanted)
        self.assertGreater(there, 10)

    def test_by_their_standing(self):
        for sights in AGREED:
            size = 8 if sights.kinds < 3 else 4
            wanted = []
            for crowd in crowds_up_to(sights.kinds, size)[1:]:
                inner = [other for other in box(crowd) if any(other) and other != crowd]
                if standing_plainly(sights, crowd) == "sure":
                    if all(standing(sights, other) == "never" for other in inner):
                        wanted.append(crowd)
            self.same(sure_batches(sights, size), tuple(sorted(wanted)))


class Settled(Refusals):

    def test_examples(self):
        self.same(open_crowd(SEEN), (0, 3))
        self.assertIs(is_settled(Sights(1, [((2,), (0,)), ((1,), (1,))])), True)
        self.assertIsNone(open_crowd(Sights(1, [((2,), (0,)), ((1,), (1,))])))
        self.same(open_crowd(sights=Sights(1, [])), (1,))
        self.assertIs(is_settled(sights=Sights(1, [])), False)
        self.same(open_crowd(Sights(3, [])), (0, 0, 1))
        self.assertIs(is_settled(Sights(1, [((1,), (0,))])), True)
        self.same(open_crowd(Sights(1, [((6,), (0,)), ((2,), (2,))])), (3,))
        self.same(open_crowd(Sights(1, [((6,), (0,)), ((3,), (3,))])), None)
        self.same(open_crowd(Sights(1, [((8,), (8,))])), (9,))

    def test_the_first_of_the_smallest_open_crowds(self):
        for sights in AGREED:
            found = open_crowd(sights)
            self.assertIs(is_settled(sights), found is None)
            most = sum(found) if found is not None else 9 if sights.kinds < 3 else 5
            for crowd in crowds_up_to(sights.kinds, most):
                if found is not None and (sum(crowd), crowd) >= (sum(found), found):
                    break
                self.assertNotEqual(standing_plainly(sights, crowd), "open")
            if found is not None:
                self.assertTrue(type(found) is tuple and is_plain(found))
                self.same(standing_plainly(sights, found), "open")
            else:
                self.assertLess(name_count(seen_book(sights)), 100)

    def test_settled_by_names(self):
        for sights in AGREED:
            many = name_count(seen_book(sights))
            if sights.kinds == 1 and many is not None:
                names = {crowd[0] % many for crowd in stayed_of(sights)}
                settled = all(any(time * name % many in names for time in range(1, many)) for name in range(1, many))
                self.assertIs(is_settled(sights), settled)

    def test_too_many_names(self):
        thousand = Sights(3, [((10, 0, 0), (0, 0, 0)), ((0, 10, 0), (0, 0, 0)), ((0, 0, 10), (0, 0, 0))])
        self.same(open_crowd(thousand), (0, 0, 1))
        self.assertIs(is_settled(thousand), False)
        more = Sights(2, [((7, 0), (0, 0)), ((0, 143), (0, 0))])
        self.refused(Refused, 1001, open_crowd, more)
        self.refused(Refused, 1001, is_settled, more)
        small = Sights(4, [(taken(6, unit(4, kind)), (0, 0, 0, 0)) for kind in range(4)])
        self.refused(Refused, 1296, open_crowd, small)
        self.refused(Refused, 1296, is_settled, small)
        self.same(standing(small, (6, 6, 0, 0)), "sure")
        # That no safe book agrees comes first.
        wrong = with_sight(small, ((6, 0, 0, 0), (6, 0, 0, 0)))
        self.refused(Refused, 0, open_crowd, wrong)
        self.refused(Refused, 0, is_settled, wrong)

    def test_many_names_settled(self):
        # A prime number of names, of which one that was left is enough.
        self.assertIs(is_settled(Sights(1, [((997,), (0,)), ((1,), (1,))])), True)
        self.same(open_crowd(Sights(1, [((1000,), (0,)), ((8,), (8,))])), (10,))
        self.same(open_crowd(Sights(1, [((1000,), (0,)), ((200,), (200,))])), (250,))
        self.assertIs(is_settled(Sights(1, [((1000,), (0,)), ((499,), (499,))])), False)
        self.assertIs(is_settled(Sights(1, [((1000,), (0,)), ((500,), (500,))])), True)

    def test_whoever_always_watches(self):
        books = [told_book(1, ((5, (1,)),)), told_book(2, ((6, (1, 4)),)), told_book(2, ((2, (1, 0)), (2, (0, 1)))),
                 told_book(3, ((4, (1, 2, 3)),)), told_book(2, ((7, (1, 3)),)), PAIRS] + [
                     book for book in SAFE if name_count(book) is not None and name_count(book) <= 12]
        for book in books:
            many, sights = name_count(book), Sights(book.kinds, [])
            crowd = open_crowd(sights)
            while crowd is not None:
                self.assertLessEqual(sum(crowd), many)
                before = sights
                sights = with_sight(sights, (crowd, all_ends(book, crowd)[0]))
                self.assertNotEqual(standing(sights, crowd), "open")
                self.assertNotEqual(before, sights)
                crowd = open_crowd(sights)
            self.assertIs(is_settled(sights), True)
            self.assertEqual(signed_table(seen_book(sights)), signed_table(book))

    def test_without_end(self):
        # With a balance in the book that is watched, there is always a next one.
        sights = Sights(2, [])
        for _ in range(12):
            crowd = open_crowd(sights)
            sights = with_sight(sights, (crowd, all_ends(Book(2, [(1, 2)]), crowd)[0]))
            self.assertIs(is_settled(sights), False)


class Beside(Refusals):

    def test_several_sights(self):
        def asked(sights):
            crowds = crowds_up_to(sights.kinds, 3)
            return [standing(sights, crowd) for crowd in crowds], sure_batches(sights, 3), is_settled(sights), open_crowd(sights)
        few = [sights for sights in AGREED if sights.kinds == 2]
        once = [asked(sights) for sights in few]
        self.assertEqual(once, [asked(sights) for sights in few[::-1]][::-1])

    def test_sights_stay(self):
        before = repr(SEEN.pairs)
        crowd = [1, 3]
        for function in (standing, may_be_left):
            function(SEEN, crowd)
        sure_batches(SEEN, 4)
        open_crowd(SEEN)
        self.assertEqual((repr(SEEN.pairs), crowd), (before, [1, 3]))


if __name__ == "__main__":
    unittest.main()
