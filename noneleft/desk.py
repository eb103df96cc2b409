"""A desk at which a hall is told what to do in words."""

from noneleft.books import Book
from noneleft.booktexts import number_told
from noneleft.court import least_wrong
from noneleft.errors import InvalidCommand
from noneleft.hall import Hall

MOST_FIGURES = 4


class Desk:
    """Does commands in a hall, and answers them."""

    def __init__(self):
        self.hall = None

    def say(self, command):
        """Do a command; tells a text."""
        if not isinstance(command, str):
            raise InvalidCommand()
        words = command.split(" ")
        numbers = [number_told(word, MOST_FIGURES) for word in words[1:]]
        if None in numbers:
            raise InvalidCommand()
        if words[0] == "book":
            self.hall = Hall(_book_of(numbers))
            return "ok"
        if self.hall is None:
            raise InvalidCommand()
        if numbers:
            return _done_with(self.hall, words[0], numbers)
        return _done(self.hall, words[0])


def _book_of(numbers):
    """The book of so many kinds as the first number tells, and of the batches that the others tell."""
    if not numbers or numbers[0] == 0 or (len(numbers) - 1) % numbers[0] != 0:
        raise InvalidCommand()
    kinds = numbers[0]
    return Book(kinds, [tuple(numbers[at:at + kinds]) for at in range(1, len(numbers), kinds)])


def _done_with(hall, word, numbers):
    """Do the command of this word with these numbers in the hall."""
    if word == "come" and len(numbers) == hall.book.kinds:
        hall.come(numbers)
    elif word == "go" and len(numbers) == 1:
        hall.go(numbers[0])
    else:
        raise InvalidCommand()
    return "ok"


def _done(hall, word):
    """Do the command of this word alone in the hall."""
    if word == "all":
        return _listed(hall.go_all())
    if word == "waiting":
        return _listed(hall.waiting())
    if word == "arrived":
        return _listed(hall.arrived())
    if word == "gone":
        return _listed(hall.gone())
    if word == "name":
        return _listed(hall.name())
    if word == "safe":
        return _verdict(least_wrong(hall.book))
    if word == "lost":
        return "yes" if hall.lost() else "no"
    if word == "undo":
        return "ok" if hall.undo() else "nothing"
    raise InvalidCommand()


def _listed(numbers):
    """The numbers as words, or none."""
    return " ".join([str(number) for number in numbers]) if numbers else "none"


def _verdict(crowd):
    """What is said of a book with this crowd that goes wrong, or None."""
    return "yes" if crowd is None else "no " + _listed(crowd)
