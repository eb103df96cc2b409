"""[51]: what a naming tells at all, lots of kinds that stand apart by it, and namings beside each other."""

import unittest

from itertools import combinations, product

from noneleft.errors import InvalidGroup, Refused
from noneleft.lots import meeting, names_beside, reached, stands_apart
from noneleft.parts import beside
from noneleft.told import told_book
from refusals import Refusals
from test_told import NAMINGS, NO_NAMINGS, is_nought_by, told_plainly
from trial import NO_NUMBERS, NOTHING, added, box, crowds_of_size, is_plain, near_misses, unit

SIXES = ((2, (1, 0, 1)), (3, (0, 1, 1)))
NO_LOTS = NOTHING + ([0], (), (0, 1, 2), (0, 0), (1, 0), (2, 1), (3,), (0, 3), (-1,), (-1, 0), (True,), (0, True), (False,), (False, 1),
                     (1.0,), (0, 1.0), ("0",), ((0,),), (None,))


def told_of(value, crowd):
    sums = [(modulus, sum(number * hour for number, hour in zip(crowd, hours))) for modulus, hours in value]
    return tuple(total % modulus if modulus else total for modulus, total in sums)


def lots(kinds):
    return [lot for size in range(1, kinds) for lot in combinations(range(kinds), size)]


def reached_plainly(kinds, value):
    """What is told of all crowds with less than so many of each kind as make every clock come round."""
    turn = 1
    for modulus, _ in value:
        turn *= modulus
    return tuple(sorted({told_of(value, crowd) for crowd in product(range(turn), repeat=kinds)}))


class Reached(Refusals):

    def test_examples(self):
        self.same(reached(2, ((3, (1, 1)),)), ((0,), (1,), (2,)))
        self.same(reached(kinds=2, value=((6, (2, 4)),)), ((0,), (2,), (4,)))
        self.same(reached(3, SIXES), ((0, 0), (0, 1), (0, 2), (1, 0), (1, 1), (1, 2)))
        self.same(reached(1, ((2, (1,)), (4, (1,)))), ((0, 0), (0, 2), (1, 1), (1, 3)))
        self.same(reached(1, ()), ((),))
        self.same(reached(2, ((5, (0, 10)),)), ((0,),))
        self.same(reached(1, ((12, (-1,)),)), tuple((hour,) for hour in range(12)))

    def test_plainly(self):
        for kinds in (1, 2, 3):
            for value in NAMINGS[kinds]:
                balances = [at for at, (modulus, _) in enumerate(value) if modulus == 0]
                if balances:
                    self.refused(Refused, balances[0], reached, kinds, value)
                elif kinds < 3 or len(value) < 3:
                    self.same(reached(kinds, value), reached_plainly(kinds, value))

    def test_refusals(self):
        for value, at in NO_NAMINGS:
            self.refused(InvalidGroup, at, reached, 2, value)
            self.refused(InvalidGroup, at, stands_apart, 2, value, (0,))
            self.refused(InvalidGroup, at, meeting, 2, value, (0,))
            # What is wrong with the naming is told ahead of its balances and of the lot.
            self.refused(InvalidGroup, at, stands_apart, 2, value, None)
            self.refused(InvalidGroup, at, meeting, 2, value, ())
        self.refused(Refused, 0, reached, 1, ((0, (1,)),))
        self.refused(Refused, 1, reached, 1, ((2, (1,)), (0, (0,)), (0, (1,))))
        self.refused(InvalidGroup, 1, reached, 1, ((0, (1,)), (1, (0,))))


class Lots(Refusals):

    def test_examples(self):
        value = ((2, (1, 0)), (3, (0, 1)))
        self.assertIs(stands_apart(2, value, (0,)), True)
        self.assertIs(stands_apart(kinds=2, value=((6, (3, 2)),), lot=(1,)), True)
        self.assertIs(stands_apart(2, ((3, (1, 1)),), (0,)), False)
        self.assertIs(stands_apart(2, ((0, (1, -1)),), (0,)), False)
        self.assertIs(stands_apart(2, ((0, (1, 1)),), (0,)), True)
        self.assertIsNone(meeting(2, value, (0,)))
        self.same(meeting(kinds=2, value=((0, (1, -2)),), lot=(0,)), ((2, 0), (0, 1)))
        self.same(meeting(2, ((0, (1, -2)),), (1,)), ((0, 1), (2, 0)))

    def test_plainly(self):
        there = {True: 0, False: 0}
        for kinds in (2, 3):
            for value in NAMINGS[kinds]:
                for lot in lots(kinds):
                    wanted = self.stand_apart(told_plainly(kinds, value), lot)
                    self.assertIs(stands_apart(kinds, value, lot), wanted)
                    there[wanted] += 1
                    self.try_meeting(kinds, value, lot, wanted)
        self.assertTrue(min(there.values()) > 50)

    def stand_apart(self, batches, lot):
        return all(len({kind in lot for kind, number in enumerate(batch) if number}) == 1 for batch in batches)

    def try_meeting(self, kinds, value, lot, none):
        found = meeting(kinds, value, lot)
        if none:
            self.assertIsNone(found)
            return
        self.assertTrue(is_plain(found) and len(found) == 2 and all(len(crowd) == kinds and min(crowd) >= 0 for crowd in found))
        one, other = found
        self.assertTrue(all(kind in lot or number == 0 for kind, number in enumerate(one)))
        self.assertTrue(all(kind not in lot or number == 0 for kind, number in enumerate(other)))
        self.assertTrue(is_nought_by(value, added(one, other)))
        self.assertFalse(is_nought_by(value, one) or is_nought_by(value, other))

    def test_four_kinds(self):
        for value in NAMINGS[4]:
            batches = told_book(4, value).batches
            for lot in lots(4):
                wanted = self.stand_apart(batches, lot)
                self.assertIs(stands_apart(4, value, lot), wanted)
                self.try_meeting(4, value, lot, wanted)

    def test_no_meeting_of_any_crowds(self):
        for value in NAMINGS[3][::7]:
            for lot in lots(3):
                if meeting(3, value, lot) is None:
                    for crowd in crowds_of_size(3, 5) + list(box((2, 2, 2))):
                        one = tuple(number if kind in lot else 0 for kind, number in enumerate(crowd))
                        self.assertEqual(is_nought_by(value, crowd), is_nought_by(value, one) and
                                         is_nought_by(value, tuple(number - own for number, own in zip(crowd, one))))

    def test_by_clocks_alone(self):
        for kinds in (2, 3):
            for value in NAMINGS[kinds]:
                if all(modulus for modulus, _ in value):
                    for lot in lots(kinds):
                        inner = tuple((modulus, tuple(hours[kind] for kind in lot)) for modulus, hours in value)
                        rest = [kind for kind in range(kinds) if kind not in lot]
                        outer = tuple((modulus, tuple(hours[kind] for kind in rest)) for modulus, hours in value)
                        both = len(reached(len(lot), inner)) * len(reached(len(rest), outer))
                        self.assertIs(stands_apart(kinds, value, lot), len(reached(kinds, value)) == both)

    def test_refusals(self):
        for lot in NO_LOTS:
            self.refused(Refused, 0, stands_apart, 3, SIXES, lot)
            self.refused(Refused, 0, meeting, 3, SIXES, lot)
        for value in NO_NUMBERS:
            self.refused(Refused, 0, stands_apart, 3, SIXES, (value,))
            self.refused(Refused, 0, meeting, 3, SIXES, (0, value))
        for lot in ((), (0,), (1,)):
            self.refused(Refused, 0, stands_apart, 1, ((2, (1,)),), lot)
            self.refused(Refused, 0, meeting, 1, ((2, (1,)),), lot)


class NamesBeside(Refusals):

    def test_examples(self):
        self.same(names_beside(1, ((2, (1,)),), 2, ((3, (1, 2)), (0, (1, -1)))), ((2, (1, 0, 0)), (3, (0, 1, 2)), (0, (0, 1, -1))))
        self.same(names_beside(kinds=1, value=(), more=1, other=((0, (-2,)),)), ((0, (0, -2)),))
        self.same(names_beside(2, ((7, (10, -3)),), 1, ()), ((7, (10, -3, 0)),))
        self.same(names_beside(1, (), 1, ()), ())

    def test_told_books(self):
        for kinds, more in ((1, 1), (2, 1), (1, 2)):
            for value in NAMINGS[kinds][::11]:
                for other in NAMINGS[more][::13]:
                    found = names_beside(kinds, value, more, other)
                    self.assertTrue(is_plain(found))
                    self.assertEqual([modulus for modulus, _ in found], [modulus for modulus, _ in value + other])
                    whole = beside(told_book(kinds, value), told_book(more, other))
                    self.assertEqual(told_book(kinds + more, found), whole)

    def test_refusals(self):
        for value, at in NO_NAMINGS:
            self.refused(InvalidGroup, at, names_beside, 2, value, 1, ((2, (1,)),))
            self.refused(InvalidGroup, at, names_beside, 1, ((2, (1,)),), 2, value)
            # The first one is checked first.
            self.refused(InvalidGroup, at, names_beside, 2, value, 1, ((3, (1,)), (2, (1,)), None))
        self.refused(InvalidGroup, 0, names_beside, 1, ((2, (1, 1)),), 2, ((2, (1, 1)), None))
        self.refused(InvalidGroup, 1, names_beside, 1, ((2, (1,)),), 2, ((2, (1, 1)), None))
        for value in near_misses(((2, (1,)),)):
            if value != () and not (type(value) is tuple and len(value) == 2 and value[0] == value[1]):
                with self.assertRaises(InvalidGroup):
                    names_beside(1, value, 1, ())
                with self.assertRaises(InvalidGroup):
                    names_beside(1, (), 1, value)


if __name__ == "__main__":
    unittest.main()
