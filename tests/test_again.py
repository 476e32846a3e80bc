"""Equal calls tell equal things, in any order, by place and by name, and change nothing that is given [3]."""

import copy
import random
import unittest

from arrowtrios.boards import Board
from arrowtrios.books import Book
from arrowtrios.certificates import certify_kind, certify_never, certify_ring
from arrowtrios.checker import accepts
from arrowtrios.console import Console
from arrowtrios.errors import Broken, InvalidLine, NotAStanding, TooGreat, TooMany
from arrowtrios.kinds import foot, least, rings_of_mark
from arrowtrios.lists import least_above, standings_to
from arrowtrios.naming import naming_between, own_namings
from arrowtrios.remainders import at_ties, leaves, remainders
from arrowtrios.roads import freeing, road, steps
from arrowtrios.standings import Standing, length, renamed, turned
from arrowtrios.webs import Web, reach


def ring():
    """A standing, made anew."""
    return Standing(3, 4, 5)


def path():
    """Another one."""
    return Standing(2, 3, 4)


def web():
    """A web, made anew."""
    return Web(((0, 1, 0), (-1, 0, 1), (0, -1, 0)))


def row():
    """A row of turns, made anew."""
    return tuple([("b", 1), ("ca", 2)])


def plain(value):
    """A value, with the numbers or the rows of objects in their places."""
    if isinstance(value, Standing):
        return ("standing", value.numbers)
    if isinstance(value, Web):
        return ("web", value.rows, value.kept)
    return value


# Each question: a function, and its arguments by their names, made anew each time.
QUESTIONS = [
    (turned, lambda: {"standing": ring(), "turns": row()}), (length, lambda: {"turns": row()}),
    (renamed, lambda: {"standing": ring(), "naming": "cab"}), (least, lambda: {"standing": path()}),
    (foot, lambda: {"standing": Standing(1, 2, 3)}), (rings_of_mark, lambda: {"mark": -400}),
    (road, lambda: {"one": ring(), "other": Standing(3, 17, 7)}),
    (steps, lambda: {"one": path(), "other": Standing(2, 10 ** 60 + 1, 10 ** 60 + 2)}),
    (freeing, lambda: {"standing": path()}), (standings_to, lambda: {"standing": ring(), "bound": 400}),
    (least_above, lambda: {"standing": path(), "bound": 12}), (remainders, lambda: {"standing": path(), "number": 7}),
    (leaves, lambda: {"standing": ring(), "number": 2, "rests": (0, 0, 0)}),
    (at_ties, lambda: {"standing": ring(), "number": 5}),
    (naming_between, lambda: {"one": ring(), "other": Standing(5, 3, 4)}),
    (own_namings, lambda: {"standing": Standing(2, 6, 6)}),
    (reach, lambda: {"web": web()}), (certify_ring, lambda: {"standing": path()}),
    (certify_kind, lambda: {"one": ring(), "other": path()}),
    (certify_never, lambda: {"standing": ring(), "number": 2, "rests": (0, 0, 0)}),
    (accepts, lambda: {"claim": ("kind", (3, 4, 5), (-3, -4, -7)), "paper": (("b", 1),)}),
    (Web.turn, lambda: {"self": web(), "place": 1}),
    (accepts, lambda: {"claim": ["kind"], "paper": {"b": [1]}}),
]


class AgainTest(unittest.TestCase):
    def test_again_and_again_in_other_orders(self):
        draw = random.Random(101)
        first = [plain(function(*made().values())) for function, made in QUESTIONS]
        for _ in range(6):
            order = draw.sample(range(len(QUESTIONS)), len(QUESTIONS))
            for at in order:
                function, made = QUESTIONS[at]
                self.assertEqual(plain(function(*made().values())), first[at])
                by_name = dict(draw.sample(list(made().items()), len(made())))
                self.assertEqual(plain(function(**by_name)), first[at])
                self.noise(draw)

    def noise(self, draw):
        """Other questions, and errors."""
        standing = Standing(*(draw.randint(-9, 9) for _ in range(3)))
        remainders(standing, draw.randint(2, 12)), least(standing), own_namings(standing), certify_ring(standing)
        for call, error_class in [(lambda: road(standing, None), NotAStanding),
                                  (lambda: turned(ring(), (("abc", 10 ** 99),)), TooGreat),
                                  (lambda: standings_to(path(), 10 ** 6), TooMany)]:
            with self.assertRaises(error_class):
                call()

    def test_what_is_given_is_not_changed(self):
        for function, made in QUESTIONS:
            given, kept = made(), made()
            function(**given)
            self.assertEqual({name: plain(value) for name, value in given.items()},
                             {name: plain(value) for name, value in kept.items()})
            again = copy.deepcopy(given)
            self.assertEqual(plain(function(**again)), plain(function(**given)))

    def test_what_is_told_stays_as_it_is(self):
        told = [function(**made()) for function, made in QUESTIONS]
        kept = [copy.deepcopy(plain(value)) for value in told]
        for function, made in QUESTIONS:
            function(**made())
        self.assertEqual([plain(value) for value in told], kept)

    def test_boards_and_books_made_twice(self):
        told = []
        for _ in range(3):
            board, book, console = Board(ring()), Book(), Console()
            board.go(row())
            board.turn("a")
            board.undo()
            book["r"] = board.standing()
            book["p"] = path()
            book.claim(("ringed", "r"))
            with self.assertRaises(Broken):
                book.claim(("kind", "r", "p"))
            with self.assertRaises(InvalidLine):
                console.say("r  = 1 2 3")
            console.say("r = 3 4 5")
            for _ in range(2):
                told.append([board.numbers, board.changes, plain(board.standing()), book.names, book.claims,
                             book.changes, len(book),
                             plain(book["r"]), "r" in book, console.say("r least"), console.say("r steps r"),
                             console.book.names])
        self.assertEqual(told[1:], told[:-1])


class BaseTest(unittest.TestCase):
    def test_papers_lead_on(self):
        """What one function tells is taken by the others."""
        claim, paper = certify_kind(ring(), Standing(3, 17, 7))
        self.assertEqual(turned(Standing(*claim[1]), paper).numbers, claim[2])
        board = Board(ring())
        board.go(paper)
        self.assertEqual(board.numbers, claim[2])
        book = Book()
        book.do_all(("set", "a", ring()), ("set", "b", board.standing()), ("claim", ("turns", "a", "b", length(paper))))
        self.assertEqual(book.claims, (("turns", "a", "b", 2),))
        self.assertEqual([Standing(*numbers).is_ring for numbers in foot(path())].count(True), 2)


if __name__ == "__main__":
    unittest.main()
