"""A console that executes lines on a book."""

from arrowtrios.books import Book
from arrowtrios.errors import InvalidLine
from arrowtrios.kinds import least
from arrowtrios.lines import read_line
from arrowtrios.roads import steps
from arrowtrios.standings import Standing, turned


def do_put(book, name, numbers):
    """Set a name to a standing with these numbers."""
    book[name] = Standing(*numbers)
    return in_words(book[name].numbers)


def do_lead(book, name, other, word, times):
    """Set a name to the standing behind some turns from another name's one."""
    book[name] = turned(book[other], ((word, times),))
    return in_words(book[name].numbers)


def do_drop(book, name):
    """Take a name away."""
    book.drop(name)
    return DONE


def do_undo(book):
    """Take the last change back."""
    book.undo()
    return DONE


def do_claim(book, claim):
    """Make a claim."""
    book.claim(claim)
    return DONE


def do_least(book, name):
    """Tell the least form of a name's kind."""
    word, numbers = least(book[name])
    return f"{word} {in_words(numbers)}"


def do_steps(book, one, other):
    """Tell how many turns lead from one name's standing to another one's, at least."""
    fewest = steps(book[one], book[other])
    return "none" if fewest is None else str(fewest)


DONE = "ok"
DOING = {
    "put": do_put,
    "lead": do_lead,
    "drop": do_drop,
    "undo": do_undo,
    "claim": do_claim,
    "least": do_least,
    "steps": do_steps,
}


class Console:
    """A book that is led by lines."""

    def __init__(self):
        self._book = Book()

    @property
    def book(self):
        """The Book that it keeps."""
        return self._book

    def say(self, line):
        """Execute a line, and return the answer."""
        said = read_line(line)
        if said is None:
            raise InvalidLine(line)
        word, *rest = said
        action = DOING[word]
        return action(self._book, *rest)


def in_words(numbers):
    """Return numbers as they are written in a line."""
    return " ".join([str(number) for number in numbers])
