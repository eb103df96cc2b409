"""[28], [29]: prices of names, and ends of unlike costs."""

import unittest

from noneleft.books import Book
from noneleft.court import is_safe
from noneleft.errors import InvalidQuestion, Refused
from noneleft.least import coming_cost, least_left
from noneleft.naming import all_names, name_count
from noneleft.prices import cheapest_crowds, highest_prices, is_price_list, is_unlike, unlike_ends
from noneleft.tables import name_of
from refusals import Refusals
from samples import BALANCES, BOOKS, CLOCKS, EIGHTS, MIXED, NONE, PAIRS, SIX, TWO_OF_EACH, UNSAFE
from test_court import LARGE, SAFE, WRONG
from test_least import some_costs
from trial import (NO_NUMBERS, NO_SEQUENCES, NOTHING, Trial, added, cost_of, crowds_up_to, is_ending_run, is_plain,
                   near_misses, taken, total, unit, within, without)

FOURS = Book(2, [(0, 4), (2, 2), (4, 0)])
CLOCK_OF_SIX = Book(2, [(0, 6), (1, 1), (6, 0)])
NAMED = [book for book in BOOKS + SAFE + WRONG if name_count(book) is not None and name_count(book) <= 1000]
FEW_NAMES = [book for book in NAMED if name_count(book) <= {1: 30, 2: 16, 3: 8, 4: 6}.get(book.kinds, 4)]
NOT_NAMED = (NONE, BALANCES, MIXED, TWO_OF_EACH, Book(1, []), Book(6, []))


def cheapest_plainly(book, costs):
    """For each name, ascending, the first of the cheapest crowds: no such crowd has as many members as there are names."""
    best = {}
    for crowd in crowds_up_to(book.kinds, name_count(book)):
        name, told = name_of(book, crowd), (cost_of(crowd, costs), crowd)
        if name not in best or told < best[name]:
            best[name] = told
    return tuple(best[name][1] for name in sorted(best))


def is_price_list_plainly(book, costs, prices):
    """Whether no price rises by more than the cost when one of a kind is put to a crowd."""
    price_of = dict(zip(all_names(book), prices))
    if prices[0] != 0:
        return False
    for crowd in crowds_up_to(book.kinds, name_count(book)):
        for kind in range(book.kinds):
            after = name_of(book, added(crowd, unit(book.kinds, kind)))
            if price_of[after] > price_of[name_of(book, crowd)] + costs[kind]:
                return False
    return True


class Prices(Refusals):

    def test_examples(self):
        self.same(cheapest_crowds(PAIRS, (1, 1)), ((0, 0), (0, 1), (1, 0)))
        self.same(cheapest_crowds(PAIRS, (5, 1)), ((0, 0), (0, 1), (0, 2)))
        self.same(highest_prices(PAIRS, (5, 1)), (0, 1, 2))
        self.same(highest_prices(book=PAIRS, costs=[1000, 1000]), (0, 1000, 1000))
        self.same(cheapest_crowds(book=PAIRS, costs=[1, 2]), ((0, 0), (0, 1), (1, 0)))
        self.same(cheapest_crowds(PAIRS, (1, 3)), ((0, 0), (2, 0), (1, 0)))
        self.assertIs(is_price_list(book=PAIRS, costs=[5, 1], value=(0, 1, 2)), True)
        self.same(cheapest_crowds(Book(1, [(1,)]), (1000,)), ((0,),))
        self.same(highest_prices(Book(1, [(1,)]), (1000,)), (0,))
        self.assertIs(is_price_list(Book(1, [(1,)]), (1000,), (0,)), True)

    def test_first_of_the_cheapest(self):
        # Two crowds of one name cost the same: the first one is told, also where it has more members.
        self.same(cheapest_crowds(PAIRS, (1, 2))[1], (0, 1))
        self.same(cheapest_crowds(PAIRS, (2, 1))[2], (0, 2))
        self.same(cheapest_crowds(Book(2, [(0, 3), (1, 1), (3, 0)]), (4, 2))[2], (0, 2))
        self.same(cheapest_crowds(Book(3, [(0, 1, 1), (1, 0, 1), (0, 0, 2)]), (1, 1, 1)), ((0, 0, 0), (0, 0, 1)))

    def test_each_book_with_few_names(self):
        for book in FEW_NAMES:
            for costs in some_costs(book.kinds):
                found = cheapest_crowds(book, costs)
                self.same(found, cheapest_plainly(book, costs))
                self.assertEqual(tuple(name_of(book, crowd) for crowd in found), all_names(book))
                self.same(highest_prices(book, costs), tuple(cost_of(crowd, costs) for crowd in found))

    def test_price_lists(self):
        for book in FEW_NAMES:
            for costs in some_costs(book.kinds)[:3]:
                highest = highest_prices(book, costs)
                self.assertIs(is_price_list(book, costs, highest), True)
                self.assertIs(is_price_list(book, costs, (0,) * len(highest)), True)
                for at in range(len(highest)):
                    for change in (-2, -1, 1, 2):
                        value = highest[:at] + (highest[at] + change,) + highest[at + 1:]
                        wanted = value[at] >= 0 and is_price_list_plainly(book, costs, value)
                        self.assertIs(is_price_list(book, costs, value), wanted, (book.batches, costs, value))
                        self.assertFalse(wanted and change > 0)
                for value in ((min(price, 2) for price in highest), (price // 2 for price in highest)):
                    value = tuple(value)
                    self.assertIs(is_price_list(book, costs, value), is_price_list_plainly(book, costs, value))

    def test_no_price_lists(self):
        for value in NOTHING + (0, (0, 1), (0, 1, 2, 3), (1, 1, 2), (0, 0, 3), (0, 3, 2), (0, -1, 0), (0, 2, 1)):
            self.assertIs(is_price_list(PAIRS, (5, 1), value), False, value)
        for value in near_misses((0, 1, 2)):
            self.assertIs(is_price_list(PAIRS, (5, 1), value), False, value)

    def test_a_thousand_names(self):
        book = Book(3, [(10, 0, 0), (0, 10, 0), (0, 0, 10)])
        self.assertEqual(name_count(book), 1000)
        self.same(cheapest_crowds(book, (3, 2, 1)), all_names(book))
        self.same(highest_prices(book, (3, 2, 1)), tuple(cost_of(name, (3, 2, 1)) for name in all_names(book)))
        self.assertIs(is_price_list(book, (3, 2, 1), highest_prices(book, (3, 2, 1))), True)
        for function, more in ((cheapest_crowds, ()), (highest_prices, ()), (is_price_list, ((0,),)), (unlike_ends, ())):
            self.refused(Refused, 1001, function, Book(2, [(1, 7), (0, 1001)]), (0, 0), *more)
            self.refused(Refused, 8 ** 6, function, EIGHTS, None, *more)

    def test_safe_books(self):
        for book in SAFE:
            if book in NAMED:
                for costs in some_costs(book.kinds):
                    price_of = dict(zip(all_names(book), highest_prices(book, costs)))
                    for crowd in crowds_up_to(book.kinds, 4):
                        self.assertEqual(coming_cost(book, crowd, costs), price_of[name_of(book, taken(-1, crowd))])
                        self.assertGreaterEqual(least_left(book, crowd, costs), price_of[name_of(book, crowd)])

    def test_refusals(self):
        for function, more in ((cheapest_crowds, ()), (highest_prices, ()), (is_price_list, ((0, 0, 0),))):
            for book in NOT_NAMED:
                for costs in ((1,) * book.kinds, None, (0,) * book.kinds):
                    self.refused(Refused, 0, function, book, costs, *more)
            self.try_costs(function, *more)

    def try_costs(self, function, *more):
        for value in NO_SEQUENCES:
            self.refused(InvalidQuestion, 2, function, PAIRS, value, *more)
        for value in NO_NUMBERS + (0,):
            self.refused(InvalidQuestion, 0, function, PAIRS, (value, value), *more)
            self.refused(InvalidQuestion, 1, function, PAIRS, [1, value], *more)
            self.refused(InvalidQuestion, 2, function, PAIRS, [1, 1, value], *more)
        for value in ((), (1,), [1, 1, 1]):
            self.refused(InvalidQuestion, 2, function, PAIRS, value, *more)


class UnlikeEnds(Refusals):

    def test_examples(self):
        self.assertIsNone(unlike_ends(FOURS, (1, 1)))
        self.assertTrue(self.is_right(PAIRS, (1, 1), unlike_ends(book=PAIRS, costs=[1, 1])))
        self.assertIsNone(unlike_ends(CLOCKS, (3, 7)))
        self.assertIs(is_unlike(book=PAIRS, costs=[1, 1], value=((3, 1), (1,), (2,))), True)
        self.assertIs(is_unlike(PAIRS, (1, 2), ((3, 1), (1,), (2,))), False)
        self.assertIs(is_unlike(PAIRS, (1, 2), ((2, 2), (1,), (1, 1))), False)
        self.assertIs(is_unlike(UNSAFE, (1, 1), ((2, 2), (0, 0), (1,))), True)

    def is_right(self, book, costs, value):
        if type(value) is not tuple or len(value) != 3 or not is_plain(value):
            return False
        crowd, run, other = value
        if type(crowd) is not tuple or len(crowd) != book.kinds or any(type(number) is not int for number in crowd):
            return False
        if min(crowd) < 0 or sum(crowd) > 100:
            return False
        if not is_ending_run(book, crowd, run) or not is_ending_run(book, crowd, other):
            return False
        left = [without(crowd, total(book.kinds, book.batches, one)) for one in (run, other)]
        return cost_of(left[0], costs) != cost_of(left[1], costs)

    def test_each_book(self):
        told = set()
        for book in NAMED + list(LARGE):
            if any(sum(batch) > 6 for batch in book.batches) or len(book.batches) > 8 or name_count(book) is None:
                continue
            if name_count(book) > 1000:
                continue
            for costs in some_costs(book.kinds):
                value = unlike_ends(book, costs)
                told.add((value is None, is_safe(book)))
                if value is not None:
                    self.assertTrue(self.is_right(book, costs, value), (book.batches, costs, value))
                    self.assertIs(is_unlike(book, costs, value), True)
                    self.assertIs(is_unlike(book, list(costs), (value[0], value[2], value[1])), True)
                else:
                    self.assertTrue(is_safe(book))
                    trial = Trial(book)
                    for crowd in crowds_up_to(book.kinds, {1: 25, 2: 12, 3: 7}.get(book.kinds, 4)):
                        self.assertEqual(len({cost_of(left, costs) for left in trial.ends(crowd)}), 1)
        self.assertEqual(told, {(True, True), (False, True), (False, False)})

    def test_small_books_plainly(self):
        # In these books some small crowd has ends of unlike costs, if any crowd has.
        for book in (PAIRS, FOURS, CLOCKS, CLOCK_OF_SIX, Book(2, [(0, 2), (2, 1), (4, 0)]), Book(2, [(2, 0), (1, 1), (0, 2)]),
                     Book(2, [(0, 4), (1, 2), (2, 0)]), Book(1, [(4,)]), Book(1, [(2,), (3,)]), Book(2, [(0, 3), (1, 0)])):
            trial = Trial(book)
            for costs in some_costs(book.kinds) + [(3, 2)[:book.kinds], (5, 3)[:book.kinds], (2, 3)[:book.kinds]]:
                unlike = any(len({cost_of(left, costs) for left in trial.ends(crowd)}) > 1
                             for crowd in crowds_up_to(book.kinds, 14))
                self.assertEqual(unlike_ends(book, costs) is not None, unlike, (book.batches, costs))

    def test_any_value(self):
        for book, costs, value in ((PAIRS, (1, 1), ((3, 1), (1,), (2,))), (UNSAFE, (1, 1), ((2, 2), (0, 0), (1,))),
                                   (SIX, (1,) * 6, ((1, 3, 0, 0, 0, 5), (0, 5), (0, 1, 1, 1)))):
            for wrong in near_misses(value):
                self.assertIs(is_unlike(book, costs, wrong), self.is_right(book, costs, wrong), wrong)
        for value in NOTHING + ((), ((0, 0), (), ()), ((3, 1), (1,), (1,)), ((3, 1), (2,), ()), ((3, 1), (), (2,)),
                                ((3, 1), (1, 1), (2,)), ((3, 1), (1, 2), (2,)), ((3, 1), (3,), (2,)), ((3, 1), (-1,), (2,)),
                                ([3, 1], (1,), (2,)), ((3, 1), [1], (2,)), ((3, 1, 0), (1,), (2,)), ((3,), (1,), (2,))):
            self.assertIs(is_unlike(PAIRS, (1, 1), value), False, value)
            self.assertIs(is_unlike(NONE, (1, 1), value), False, value)
        crowd = (50, 50)
        value = (crowd, (2,) * 16 + (1, 1) + (0,) * 16, (1,) * 50)
        self.assertIs(is_unlike(PAIRS, (1, 1), value), False)
        # A crowd of a hundred members, of which one or two are left.
        value = ((98, 2), (1, 1) + (2,) * 32, (1,) + (2,) * 32)
        self.assertIs(is_unlike(PAIRS, (1, 1), value), False)
        value = ((99, 1), (1,) + (2,) * 32, (2,) * 33)
        self.assertTrue(within(total(2, PAIRS.batches, value[1]), value[0]))
        self.assertIs(is_unlike(PAIRS, (1, 1), value), True)
        self.assertIs(is_unlike(PAIRS, (1, 2), value), False)

    def test_refusals(self):
        for book in NOT_NAMED:
            for costs in ((1,) * book.kinds, None, (0,) * book.kinds):
                self.refused(Refused, 0, unlike_ends, book, costs)
        # Where all names cannot be told any value is tried all the same.
        self.assertIs(is_unlike(MIXED, (1, 1), ((2, 4), (0,), (0,))), False)
        self.assertIs(is_unlike(Book(2, [(1, 1), (1, 2)]), (1, 1), ((1, 2), (0,), (1,))), True)
        self.assertIs(is_unlike(Book(3, [(1, 1, 0), (1, 2, 0)]), (1, 1, 1), ((1, 2, 0), (0,), (1,))), True)
        self.assertIs(is_unlike(EIGHTS, (1,) * 6, ((8,) * 6, (0, 1, 2, 3, 4, 5), (0, 1, 2, 3, 4))), False)
        Prices.try_costs(self, unlike_ends)
        for value in (None, ((3, 1), (1,), (2,))):
            Prices.try_costs(self, is_unlike, value)
        self.refused(InvalidQuestion, 2, is_unlike, NONE, (1,), None)


if __name__ == "__main__":
    unittest.main()
