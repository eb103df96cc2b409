"""[26], [27]: what is left at least, and who must come."""

import random
import unittest

from noneleft.books import Book
from noneleft.court import goes_wrong, is_safe
from noneleft.errors import InvalidCrowd, InvalidQuestion, InvalidRun
from noneleft.least import added_cost, coming_cost, least_coming, least_left, least_remnants, least_run
from noneleft.tables import name_of
from refusals import Refusals
from samples import BALANCES, BOOKS, NONE, PAIRS, SIX, UNSAFE
from trial import (NO_NUMBERS, NO_SEQUENCES, Trial, added, box, cost_of, crowds_of_size, crowds_up_to, is_ending_run,
                   is_plain, total, within, without)

SMALL = [book for book in BOOKS if book.kinds < 4]


def some_costs(kinds):
    """Costs of so many kinds: all alike, unlike ones, and the limits."""
    return [(1,) * kinds, tuple(range(1, kinds + 1)), tuple(range(2 * kinds, 0, -2)), (1000,) * (kinds - 1) + (1,)]


def crowds_of_cost(kinds, costs, cost):
    """All crowds of just this cost."""
    if kinds == 1:
        return [(cost // costs[0],)] if cost % costs[0] == 0 else []
    return [(own,) + rest for own in range(cost // costs[0] + 1)
            for rest in crowds_of_cost(kinds - 1, costs[1:], cost - own * costs[0])]


class LeastLeft(Refusals):

    def test_examples(self):
        self.same(least_left(PAIRS, (3, 1), (1, 1)), 1)
        self.same(least_remnants(PAIRS, (3, 1), (1, 3)), ((2, 0),))
        self.same(least_remnants(PAIRS, (3, 1), (1, 2)), ((0, 1), (2, 0)))
        self.same(least_remnants(PAIRS, (3, 1), (1, 1)), ((0, 1),))
        self.same(least_left(book=PAIRS, crowd=[3, 1], costs=[1, 3]), 2)
        self.same(least_remnants(book=PAIRS, crowd=[3, 1], costs=[5, 1]), ((0, 1),))
        self.same(least_run(book=PAIRS, crowd=[3, 1], costs=[5, 1]), (2,))
        self.same(least_left(PAIRS, (0, 0), (1000, 1000)), 0)
        self.same(least_remnants(PAIRS, (0, 0), (1000, 1000)), ((0, 0),))
        self.same(least_run(PAIRS, (0, 0), (1000, 1000)), ())
        self.same(least_left(NONE, (3, 4), (1000, 10)), 3040)
        self.same(least_run(NONE, (3, 4), (1000, 10)), ())
        # The first run leaves somebody, another one nobody.
        self.same(least_left(UNSAFE, (2, 2), (1, 1)), 0)
        self.same(least_run(UNSAFE, (2, 2), (1, 1)), (0, 0))

    def test_each_small_crowd(self):
        for book in BOOKS:
            trial = Trial(book)
            for crowd in crowds_up_to(book.kinds, {1: 20, 2: 9, 3: 6}.get(book.kinds, 3)):
                for costs in some_costs(book.kinds):
                    least = min(cost_of(left, costs) for left in trial.ends(crowd))
                    self.same(least_left(book, crowd, costs), least)
                    wanted = tuple(sorted(left for left in trial.ends(crowd) if cost_of(left, costs) == least))
                    self.same(least_remnants(book, crowd, costs), wanted)
                    run = least_run(book, crowd, costs)
                    self.assertTrue(is_ending_run(book, crowd, run), (book.batches, crowd, run))
                    self.assertIn(without(crowd, total(book.kinds, book.batches, run)), wanted)

    def test_twelve_members(self):
        for book in (SIX, Book(6, [(1, 1, 1, 1, 1, 1), (2, 0, 2, 0, 0, 0), (0, 1, 0, 2, 0, 0), (0, 0, 0, 0, 1, 2)])):
            trial = Trial(book)
            for crowd in ((2, 2, 2, 2, 2, 2), (1, 3, 2, 2, 1, 3), (4, 0, 4, 0, 2, 2), (0, 6, 0, 0, 0, 6)):
                for costs in some_costs(6):
                    self.same(least_left(book, crowd, costs), min(cost_of(left, costs) for left in trial.ends(crowd)))
                    self.assertTrue(is_ending_run(book, crowd, least_run(book, crowd, costs)))

    def test_what_is_taken_out(self):
        for book in SMALL:
            trial = Trial(book)
            for crowd in crowds_up_to(book.kinds, {1: 12, 2: 6, 3: 4}[book.kinds]):
                for costs in some_costs(book.kinds)[1:3]:
                    self.assertEqual(least_left(book, crowd, costs), min(
                        cost_of(part, costs) for part in box(crowd) if trial.clears(without(crowd, part))))

    def test_both_apart(self):
        for book in (PAIRS, UNSAFE, Book(3, [(1, 2, 0), (0, 2, 4), (3, 0, 3)])):
            crowds = crowds_up_to(book.kinds, 4)
            for one in crowds:
                for other in crowds:
                    costs = some_costs(book.kinds)[1]
                    self.assertLessEqual(least_left(book, added(one, other), costs),
                                         least_left(book, one, costs) + least_left(book, other, costs))

    def test_names_and_safe_books(self):
        for book in SMALL:
            always = True
            for crowd in crowds_up_to(book.kinds, {1: 14, 2: 9, 3: 6}[book.kinds]):
                for costs in some_costs(book.kinds)[:2]:
                    name = name_of(book, crowd)
                    least = min(cost_of(part, costs) for part in box(crowd) if name_of(book, part) == name)
                    self.assertGreaterEqual(least_left(book, crowd, costs), least)
                    always = always and least_left(book, crowd, costs) == least
            self.assertTrue(always or not is_safe(book))


class Coming(Refusals):

    def test_examples(self):
        self.same(least_coming(PAIRS, (2, 0), (1, 1)), (1, 0))
        self.same(coming_cost(PAIRS, (2, 0), (1, 1)), 1)
        self.same(coming_cost(book=PAIRS, crowd=[2, 0], costs=[5, 1]), 2)
        self.same(least_coming(book=PAIRS, crowd=[2, 0], costs=[5, 1]), (0, 2))
        self.same(added_cost(Book(2, [(1, 1), (2, 0)]), (2, 2), 1, (1, 1)), 2)
        self.same(added_cost(book=UNSAFE, crowd=[2, 2], batch=0, costs=[1, 1]), 0)
        self.same(coming_cost(UNSAFE, (2, 2), (1, 1)), 0)
        self.same(least_coming(UNSAFE, (2, 2), (1, 1)), (0, 0))
        self.same(coming_cost(UNSAFE, (0, 2), (1000, 1)), 2000)

    def test_nobody_and_no_batches(self):
        for book in BOOKS:
            self.same(coming_cost(book, (0,) * book.kinds, (1000,) * book.kinds), 0)
            self.same(least_coming(book, (0,) * book.kinds, (1000,) * book.kinds), (0,) * book.kinds)
        for crowd in ((1, 0), (0, 1), (6, 6)):
            self.assertIsNone(coming_cost(NONE, crowd, (1, 1)))
            self.assertIsNone(least_coming(NONE, crowd, (1, 1)))
        book = Book(3, [(2, 0, 0), (0, 0, 3)])
        self.assertIsNone(coming_cost(book, (2, 1, 0), (1, 1, 1)))
        self.assertIsNone(least_coming(book, (2, 1, 3), (1, 1, 1)))
        self.assertIsNone(added_cost(book, (2, 1, 0), 1, (1, 1, 1)))
        self.same(added_cost(book, (2, 0, 1), 1, (1, 1, 1)), 0)

    def test_each_small_crowd(self):
        for book in SMALL:
            trial = Trial(book)
            for crowd in crowds_up_to(book.kinds, {1: 10, 2: 5, 3: 3}[book.kinds]):
                for costs in some_costs(book.kinds)[:3]:
                    self.try_coming(book, trial, crowd, costs)

    def try_coming(self, book, trial, crowd, costs):
        cost, coming = coming_cost(book, crowd, costs), least_coming(book, crowd, costs)
        had = [any(batch[kind] for batch in book.batches) for kind in range(book.kinds)]
        if any(number and not has for number, has in zip(crowd, had)):
            self.assertIsNone(cost)
            self.assertIsNone(coming)
            return
        self.assertIs(type(cost), int)
        self.assertTrue(type(coming) is tuple and is_plain(coming) and min(coming) >= 0)
        self.assertEqual(cost_of(coming, costs), cost)
        self.assertTrue(trial.clears(added(crowd, coming)), (book.batches, crowd, coming))
        # Of all that cost less none clears: costs that are large are held against covers instead.
        if cost <= 9:
            for less in range(cost):
                for part in crowds_of_cost(book.kinds, costs, less):
                    self.assertFalse(trial.clears(added(crowd, part)), (book.batches, crowd, part))
        self.assertEqual(cost, self.cheapest_cover(book, crowd, costs) - cost_of(crowd, costs))

    def cheapest_cover(self, book, crowd, costs, first=0, total_so_far=None):
        """The least cost of batches that all of the crowd can go off with."""
        so_far = total_so_far or (0,) * book.kinds
        if within(crowd, so_far):
            return cost_of(so_far, costs)
        found = []
        for at in range(first, len(book.batches)):
            more = added(so_far, book.batches[at])
            if sum(min(mine, theirs) for mine, theirs in zip(more, crowd)) > sum(
                    min(mine, theirs) for mine, theirs in zip(so_far, crowd)):
                found.append(self.cheapest_cover(book, crowd, costs, at, more))
        return min((cost for cost in found if cost is not None), default=None)

    def test_twelve_members(self):
        for book in (SIX, BALANCES, Book(6, [(1, 1, 1, 1, 1, 1), (2, 0, 2, 0, 0, 0), (0, 1, 0, 2, 0, 0), (0, 0, 0, 0, 1, 2)])):
            rng = random.Random(book.kinds)
            for _ in range(8):
                crowd = rng.choice(crowds_of_size(book.kinds, 12))
                for costs in some_costs(book.kinds):
                    coming = least_coming(book, crowd, costs)
                    self.assertTrue(Trial(book).clears(added(crowd, coming)))
                    self.assertEqual(cost_of(coming, costs), coming_cost(book, crowd, costs))
                    self.assertEqual(coming_cost(book, crowd, costs),
                                     self.cheapest_cover(book, crowd, costs) - cost_of(crowd, costs))

    def test_added_cost(self):
        for book in SMALL + [SIX]:
            rises = False
            for crowd in crowds_up_to(book.kinds, {1: 14, 2: 9, 3: 7}.get(book.kinds, 4)):
                for at, batch in enumerate(book.batches):
                    for costs in some_costs(book.kinds)[:2]:
                        if not within(batch, crowd):
                            self.refused(InvalidRun, 0, added_cost, book, crowd, at, costs)
                            continue
                        before, after = coming_cost(book, crowd, costs), coming_cost(book, without(crowd, batch), costs)
                        rise = added_cost(book, crowd, at, costs)
                        if before is None:
                            self.assertIsNone(after)
                            self.assertIsNone(rise)
                            continue
                        self.same(rise, after - before)
                        self.assertTrue(rise >= 0)
                        if rise > 0:
                            rises = True
                            both = added(crowd, least_coming(book, crowd, costs))
                            self.assertIsNotNone(goes_wrong(book, both))
            if book.kinds < 4 and all(sum(batch) < 7 for batch in book.batches):
                self.assertFalse(rises and is_safe(book))
                # With three kinds it may first rise for larger crowds than these.
                self.assertTrue(rises or is_safe(book) or book.kinds == 3, book.batches)

    def test_safe_books_by_names(self):
        for book in (PAIRS, Book(2, [(0, 2), (2, 1), (4, 0)]), BALANCES, Book(3, [(1, 1, 0), (1, 0, 1)])):
            for costs in some_costs(book.kinds):
                found = {}
                for crowd in crowds_up_to(book.kinds, 7):
                    found.setdefault(name_of(book, crowd), set()).add(coming_cost(book, crowd, costs))
                self.assertTrue(all(len(told) == 1 for told in found.values()))


class Refusing(Refusals):

    FUNCTIONS = (least_left, least_remnants, least_run, coming_cost, least_coming)

    def test_costs(self):
        for function in self.FUNCTIONS:
            for value in NO_SEQUENCES:
                self.refused(InvalidQuestion, 2, function, PAIRS, (1, 1), value)
            for value in NO_NUMBERS + (0,):
                self.refused(InvalidQuestion, 0, function, PAIRS, (1, 1), (value, value))
                self.refused(InvalidQuestion, 1, function, PAIRS, (1, 1), [1, value])
                self.refused(InvalidQuestion, 2, function, PAIRS, (1, 1), [1, 1, value])
            for value in ((), (1,), [1, 1, 1], [1]):
                self.refused(InvalidQuestion, 2, function, PAIRS, (1, 1), value)

    def test_the_crowd_ahead_of_the_costs(self):
        for function in self.FUNCTIONS:
            for value in NO_SEQUENCES:
                self.refused(InvalidCrowd, 2, function, PAIRS, value, None)
            for value in NO_NUMBERS:
                self.refused(InvalidCrowd, 0, function, PAIRS, (value, 1), (0, 0))
                self.refused(InvalidCrowd, 1, function, NONE, [1, value], (0, 0))
            self.refused(InvalidCrowd, 2, function, PAIRS, (1, 1, 1), (0, 0))

    def test_added_cost(self):
        for value in NO_SEQUENCES:
            self.refused(InvalidCrowd, 2, added_cost, PAIRS, value, None, None)
            self.refused(InvalidQuestion, 2, added_cost, PAIRS, (3, 3), 1, value)
        for value in NO_NUMBERS + (3, 10 ** 20, "0", (0,)):
            self.refused(InvalidRun, 0, added_cost, PAIRS, (3, 3), value, None)
            self.refused(InvalidRun, 0, added_cost, NONE, (3, 3), value, (1, 1))
            self.refused(InvalidCrowd, 1, added_cost, PAIRS, (3, -1), value, None)
        for value in (0, -1, True, None, 1.0):
            self.refused(InvalidQuestion, 1, added_cost, PAIRS, (3, 3), 1, (1, value))
        self.refused(InvalidRun, 0, added_cost, PAIRS, (2, 3), 2, None)
        self.refused(InvalidRun, 0, added_cost, NONE, (0, 0), 0, (1, 1))


if __name__ == "__main__":
    unittest.main()
