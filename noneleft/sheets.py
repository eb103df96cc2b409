"""Sheets of evidence: a question and an answer to it that can be checked."""

from noneleft.books import Book, checked_crowd
from noneleft.court import is_safe_paper, is_strange, is_unsafe_paper, safe_paper, strange_crowd, unsafe_paper
from noneleft.covers import is_tuple_run
from noneleft.errors import InvalidQuestion, LeftError, Refused
from noneleft.naming import is_naming, naming
from noneleft.rows import is_sequence
from noneleft.runs import clearing_run, crowd_of

# How many things the question of each kind of sheet has.
QUESTIONS = {"safe": 1, "unsafe": 1, "strange": 1, "naming": 1, "clears": 2}


def is_clearing(book, crowd, value):
    """Tell whether any value is a run, a tuple, that clears the crowd."""
    present = checked_crowd(book, crowd)
    return is_tuple_run(book, value) and crowd_of(book, value) == present


def sheet_holds(value):
    """Tell whether any value is a sheet that holds."""
    if not isinstance(value, tuple) or len(value) != 3:
        return False
    name, question, told = value
    if not _is_name(name) or not _is_question(name, question):
        return False
    try:
        return _is_shown(name, question, told)
    except LeftError:
        return False


def _is_name(value):
    """Tell whether any value is a kind of sheet."""
    return isinstance(value, str) and value in QUESTIONS


def _is_question(name, value):
    """Tell whether any value is a question for this kind of sheet."""
    return isinstance(value, tuple) and len(value) == QUESTIONS[name] and isinstance(value[0], Book)


def _is_shown(name, question, value):
    """Tell whether any value answers the question of this kind of sheet."""
    book = question[0]
    if name == "safe":
        return is_safe_paper(book, value)
    if name == "unsafe":
        return is_unsafe_paper(book, value)
    if name == "strange":
        return is_strange(book, value)
    if name == "naming":
        return is_naming(book, value)
    return is_clearing(book, question[1], value)


def sheet(name, question):
    """A sheet of this kind, with this question, that holds."""
    if not _is_name(name):
        raise Refused(0)
    if not _is_question(name, question):
        raise Refused(1)
    told = _answer(name, question)
    if told is None:
        raise Refused(2)
    return name, tuple([list(part) if isinstance(part, list) else part for part in question]), told


def _answer(name, question):
    """Some answer to the question of this kind of sheet, or None."""
    book = question[0]
    if name == "safe":
        return safe_paper(book)
    if name == "unsafe":
        return unsafe_paper(book)
    if name == "strange":
        return strange_crowd(book)
    if name == "naming":
        return naming(book)
    return clearing_run(book, question[1])


def wrong_sheets(values):
    """The indexes of those of a sequence that are no sheets that hold."""
    if not is_sequence(values):
        raise InvalidQuestion(0)
    return tuple([at for at, value in enumerate(values) if not sheet_holds(value)])
