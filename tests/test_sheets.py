"""[55], [56]: sheets of evidence."""

import unittest

from noneleft.books import Book
from noneleft.court import is_safe, is_safe_paper, is_strange, is_unsafe_paper
from noneleft.errors import InvalidCrowd, InvalidQuestion, Refused
from noneleft.naming import is_naming
from noneleft.sheets import is_clearing, sheet, sheet_holds, wrong_sheets
from refusals import Refusals
from samples import CLOCKS, NONE, PAIRS, UNSAFE
from test_court import SAFE, WRONG
from trial import NO_NUMBERS, NO_SEQUENCES, NOTHING, Alike, Trial, crowds_up_to, is_plain, near_misses, total

KINDS = ("safe", "unsafe", "strange", "naming", "clears")
NO_NAMES = ("", "Safe", "safe ", "clear", "is_safe", b"safe", None, True, 0, 1, (), ("safe",), ["safe"], {"safe"}, {}, 1.0, Alike(), PAIRS)
NO_QUESTIONS = (None, True, 0, "", "safe", (), [PAIRS], (None,), (2,), ((2, ()),), (PAIRS, PAIRS), (PAIRS, (0, 0), (0, 0)), PAIRS, {},
                (Alike(),), Alike(), ([PAIRS],), (Book,))
# Each kind of sheet, by hand.
HOLDING = (("safe", (Book(1, [(2,)]),), ((0, (0,), ()),)), ("safe", (NONE,), ()), ("unsafe", (UNSAFE,), ((2, 2), (0, 0), (1,))),
           ("strange", (UNSAFE,), (0, 2)), ("naming", (PAIRS,), ((3, (1, 2)),)), ("naming", (Book(1, [(1,)]),), ()),
           ("clears", (PAIRS, (4, 1)), (1, 2)), ("clears", (PAIRS, [4, 1]), (2, 1)), ("clears", (PAIRS, (0, 0)), ()))
BROKEN = (("safe", (Book(1, [(2,)]),), ((0, (0,), (0,)),)), ("safe", (UNSAFE,), ()), ("unsafe", (PAIRS,), ((2, 2), (0, 0), (1,))),
          ("unsafe", (UNSAFE,), ((2, 2), (0, 0), (0, 0))), ("strange", (UNSAFE,), (0, 4)), ("strange", (PAIRS,), (0, 2)),
          ("naming", (PAIRS,), ((3, (1, 1)),)), ("naming", (UNSAFE,), ((3, (1, 2)),)), ("clears", (PAIRS, (4, 1)), (1,)),
          ("clears", (PAIRS, (4, 1)), [1, 2]), ("clears", (PAIRS, (4, -1)), ()), ("clears", (PAIRS, (4,)), (1, 2)),
          ("clears", (PAIRS, None), ()), ("clears", (PAIRS, [4, True]), (1, 2)), ("clears", (PAIRS,), ()), ("safe", (NONE, (0, 0)), ()),
          ("sure", (NONE,), ()), ("naming", (None,), ()), ("clears", [PAIRS, (0, 0)], ()))


class Clearing(Refusals):

    def test_examples(self):
        self.assertIs(is_clearing(PAIRS, (4, 1), (1, 2)), True)
        self.assertIs(is_clearing(book=PAIRS, crowd=[4, 1], value=(2, 1)), True)
        self.assertIs(is_clearing(PAIRS, (4, 1), (1, 1)), False)
        self.assertIs(is_clearing(PAIRS, (3, 3), (0, 2)), True)
        self.assertIs(is_clearing(PAIRS, (3, 3), (1, 1, 1)), True)
        self.assertIs(is_clearing(PAIRS, (3, 3), (1, 1)), False)
        self.assertIs(is_clearing(PAIRS, (3, 3), (0, 2, 1)), False)
        self.assertIs(is_clearing(PAIRS, (0, 0), ()), True)
        self.assertIs(is_clearing(PAIRS, (1, 0), ()), False)
        self.assertIs(is_clearing(PAIRS, (10000, 10000), (1,) * 10000), True)

    def test_plainly(self):
        for book in (PAIRS, UNSAFE, Book(1, [(2,), (3,)]), Book(3, [(1, 1, 0), (0, 1, 1), (1, 0, 1)])):
            runs = [()] + [(at,) for at in range(len(book.batches))]
            runs += [run + (at,) for run in runs for at in range(len(book.batches))]
            for crowd in crowds_up_to(book.kinds, 6):
                for run in runs:
                    self.assertIs(is_clearing(book, crowd, run), total(book.kinds, book.batches, run) == crowd)

    def test_no_runs(self):
        for value in NOTHING + ([1, 2], (3,), (1, 2, 3), (-1,), (1, True), (True, 2), (1.0, 2), ("1", "2"), ((1, 2),), (None, 1)):
            self.assertIs(is_clearing(PAIRS, (4, 1), value), False, value)
        for value in near_misses((1, 2)):
            self.assertIs(is_clearing(PAIRS, (4, 1), value), False, value)

    def test_refusals(self):
        for value in NO_SEQUENCES:
            self.refused(InvalidCrowd, 2, is_clearing, PAIRS, value, None)
        for value in NO_NUMBERS:
            self.refused(InvalidCrowd, 1, is_clearing, PAIRS, (1, value), (1, 2))
            self.refused(InvalidCrowd, 0, is_clearing, PAIRS, [value, value], ())
        for crowd in ((), (1,), (1, 1, 1)):
            self.refused(InvalidCrowd, 2, is_clearing, PAIRS, crowd, ())


class Holding(Refusals):

    def test_by_hand(self):
        for value in HOLDING:
            self.assertIs(sheet_holds(value), True, value)
        for value in BROKEN:
            self.assertIs(sheet_holds(value=value), False, value)

    def test_any_value(self):
        for value in NOTHING + (PAIRS, (PAIRS,), ("safe", (NONE,)), ("safe", (NONE,), (), ()), ["safe", (NONE,), ()], "abc", Alike()):
            self.assertIs(sheet_holds(value), False, value)
        for name in NO_NAMES:
            for question in ((NONE,), (NONE, (0, 0))):
                self.assertIs(sheet_holds((name, question, ())), False)
        for name in KINDS:
            for question in NO_QUESTIONS:
                for value in ((), None, ((2, 2), (0, 0), (1,))):
                    self.assertIs(sheet_holds((name, question, value)), False)
            for value in (None, True, Alike(), [], "", [()], ((),), 1):
                self.assertIs(sheet_holds((name, (UNSAFE,) if name != "clears" else (UNSAFE, (2, 2)), value)), False)

    def test_values_in_lists(self):
        for name, question, value in HOLDING:
            for wrong in near_misses(value):
                if (name, wrong) not in (("naming", ()), ("clears", ())):
                    self.assertIs(sheet_holds((name, question, wrong)), self.is_one(name, question, wrong), (name, wrong))
            self.assertIs(sheet_holds((name, list(question), value)), False)
            self.assertIs(sheet_holds([name, question, value]), False)

    def is_one(self, name, question, value):
        book = question[0]
        if name == "clears":
            return is_clearing(book, question[1], value)
        check = {"safe": is_safe_paper, "unsafe": is_unsafe_paper, "strange": is_strange, "naming": is_naming}[name]
        return check(book, value)

    def test_crowds_of_no_sort(self):
        # Where the check raises an error, the sheet does not hold.
        for crowd in NO_SEQUENCES + ((1, None), (1,), [True, 1], ((0, 0),)):
            self.assertIs(sheet_holds(("clears", (PAIRS, crowd), ())), False)


class Sheets(Refusals):

    def test_examples(self):
        self.same(sheet("strange", (UNSAFE,))[2], (0, 2))
        self.same(sheet(name="clears", question=(PAIRS, (4, 1)))[1:], ((PAIRS, (4, 1)), (1, 2)))
        self.same(sheet("safe", (NONE,))[2], ())
        self.same(sheet("naming", (Book(1, [(1,)]),))[2], ())
        self.same(sheet("clears", (NONE, (0, 0)))[2], ())

    def test_each_kind(self):
        for book in SAFE + WRONG:
            for name, there in (("safe", is_safe(book)), ("unsafe", not is_safe(book)), ("strange", not is_safe(book)), ("naming", True)):
                if there:
                    self.try_sheet(name, (book,))
                else:
                    self.refused(Refused, 2, sheet, name, (book,))
            if book.kinds < 4:
                trial = Trial(book)
                for crowd in crowds_up_to(book.kinds, 5):
                    if trial.clears(crowd):
                        self.try_sheet("clears", (book, crowd))
                        self.try_sheet("clears", (book, list(crowd)))
                    else:
                        self.refused(Refused, 2, sheet, "clears", (book, crowd))

    def try_sheet(self, name, question):
        found = sheet(name, question)
        self.assertIs(type(found), tuple)
        self.assertEqual(found[:2], (name, question))
        self.assertTrue(is_plain(found[2]))
        self.assertEqual(len(found), 3)
        self.assertIs(sheet_holds(found), True)
        self.assertEqual(wrong_sheets([found]), ())

    def test_lists_are_copied(self):
        crowd = [4, 1]
        found = sheet("clears", (PAIRS, crowd))
        self.assertEqual(found[1], (PAIRS, [4, 1]))
        self.assertIsNot(found[1][1], crowd)
        crowd[0] = 5
        crowd.append(None)
        self.assertEqual(found, ("clears", (PAIRS, [4, 1]), (1, 2)))
        self.assertIs(sheet_holds(found), True)

    def test_refusals(self):
        for name in NO_NAMES:
            for question in ((PAIRS,), None, (PAIRS, None)):
                self.refused(Refused, 0, sheet, name, question)
        for name in KINDS:
            for question in NO_QUESTIONS:
                if name != "clears" or type(question) is not tuple or len(question) != 2 or question[0] is not PAIRS:
                    self.refused(Refused, 1, sheet, name, question)
        self.refused(Refused, 1, sheet, "clears", (PAIRS,))
        self.refused(Refused, 1, sheet, "safe", (PAIRS, (0, 0)))
        self.refused(Refused, 1, sheet, "clears", [PAIRS, (0, 0)])
        self.refused(Refused, 1, sheet, "clears", ((0, 0), PAIRS))
        self.refused(InvalidCrowd, 2, sheet, "clears", (PAIRS, PAIRS))
        for value in NO_SEQUENCES:
            self.refused(InvalidCrowd, 2, sheet, "clears", (PAIRS, value))
        for value in NO_NUMBERS:
            self.refused(InvalidCrowd, 1, sheet, "clears", (PAIRS, (1, value)))
            self.refused(InvalidCrowd, 0, sheet, "clears", (PAIRS, [value, 1]))
        self.refused(Refused, 2, sheet, "safe", (UNSAFE,))
        self.refused(Refused, 2, sheet, "unsafe", (PAIRS,))
        self.refused(Refused, 2, sheet, "strange", (CLOCKS,))
        self.refused(Refused, 2, sheet, "clears", (PAIRS, [1, 0]))

    def test_wrong_sheets(self):
        self.same(wrong_sheets(HOLDING), ())
        self.same(wrong_sheets(list(BROKEN)), tuple(range(len(BROKEN))))
        mixed = [value for pair in zip(HOLDING, BROKEN) for value in pair] + [None, HOLDING[0], [], 7]
        self.same(wrong_sheets(values=mixed), tuple(range(1, 18, 2)) + (18, 20, 21))
        self.same(wrong_sheets([]), ())
        self.same(wrong_sheets(()), ())
        for values in NO_SEQUENCES:
            self.refused(InvalidQuestion, 0, wrong_sheets, values)


if __name__ == "__main__":
    unittest.main()
