"""Trials of boards and books: behind them these are as they were, in all."""

import unittest

from arrowtrios.boards import Board
from arrowtrios.books import Book
from arrowtrios.errors import Broken, InUse, InvalidClaim, InvalidTurns, NothingToUndo, TooGreat, UnknownName
from arrowtrios.standings import Standing
from tests import books, test_boards
from tests.plain import MOST_TIMES

RING, PATH, UP = Standing(3, 4, 5), Standing(2, 3, 4), Standing(-3, -4, -7)


class Stopped(Exception):
    """An error of a test's own."""


class TrialTests:
    """What is asked of the trials of `self.held`, a board or a book with some steps, as `make` gives it."""

    def setUp(self):
        self.held = self.make()
        self.before = self.seen(self.held)
        self.past = self.undone(self.make())

    def tearDown(self):
        # All that can be taken back is as it was, too.
        self.assertEqual(self.seen(self.held), self.before)
        self.assertEqual(self.undone(self.held), self.past)

    def changed(self):
        """Change it, and take back also what was done ahead of the trial."""
        before = self.seen(self.held)
        self.change()
        self.assertNotEqual(self.seen(self.held), before)

    def test_as_gives_the_thing_itself(self):
        with self.held.trial() as held:
            self.assertIs(held, self.held)
            self.assertEqual(self.seen(held), self.before)
            self.changed()

    def test_a_trial_without_a_name(self):
        with self.held.trial():
            self.changed()

    def test_nothing_is_done(self):
        with self.held.trial():
            pass
        self.held.trial()

    def test_steps_back_to_the_beginning(self):
        with self.held.trial():
            self.undone(self.held)
            with self.assertRaises(NothingToUndo):
                self.held.undo()
            self.extend()

    def test_an_exception_is_passed_on(self):
        for error in (Stopped("x"), ValueError(), KeyboardInterrupt(), SystemExit(3), StopIteration(), GeneratorExit()):
            with self.assertRaises(error.__class__) as caught:
                with self.held.trial():
                    self.changed()
                    raise error
            self.assertIs(caught.exception, error)
            self.assertEqual(self.seen(self.held), self.before)

    def test_errors_of_the_thing_itself_are_passed_on(self):
        for call, error_class in self.failing():
            with self.assertRaises(error_class):
                with self.held.trial():
                    self.changed()
                    call()
            self.assertEqual(self.seen(self.held), self.before)

    def test_return_break_and_continue(self):
        def leave():
            with self.held.trial():
                self.changed()
                return self.seen(self.held)
        self.assertNotEqual(leave(), self.before)
        for way in range(3):
            for _ in range(2):
                with self.held.trial():
                    self.changed()
                    if way == 0:
                        break
                    if way == 1:
                        continue
            self.assertEqual(self.seen(self.held), self.before)

    def test_as_it_was_when_the_rows_began(self):
        trial = self.held.trial()
        self.extend()
        now = self.seen(self.held)
        with trial:
            self.held.undo()
            self.held.undo()
        self.assertEqual(self.seen(self.held), now)
        self.held.undo()
        with trial:
            self.changed()

    def test_trials_within_trials(self):
        with self.held.trial() as one:
            self.changed()
            middle = self.seen(self.held)
            with self.held.trial() as other:
                self.assertIs(one, other)
                self.undone(self.held)
                self.extend()
                inner = self.seen(self.held)
                with self.held.trial():
                    self.extend()
                self.assertEqual(self.seen(self.held), inner)
            self.assertEqual(self.seen(self.held), middle)

    def test_the_same_trial_within_itself(self):
        trial = self.held.trial()
        with trial as one:
            self.changed()
            middle = self.seen(self.held)
            with trial as other:
                self.assertIs(other, one)
                self.undone(self.held)
                inner = self.seen(self.held)
                with self.assertRaises(Stopped):
                    with trial:
                        self.extend()
                        raise Stopped()
                self.assertEqual(self.seen(self.held), inner)
            self.assertEqual(self.seen(self.held), middle)
            with trial:
                self.held.undo()
            self.assertEqual(self.seen(self.held), middle)

    def test_the_same_trial_again_and_again(self):
        trial = self.held.trial()
        for _ in range(3):
            with trial:
                self.changed()
            self.assertEqual(self.seen(self.held), self.before)

    def test_an_exception_through_several_trials(self):
        trial = self.held.trial()
        with self.assertRaises(Stopped):
            with trial, self.held.trial():
                self.changed()
                with trial:
                    self.held.undo()
                    raise Stopped()

    def test_trials_of_two_things(self):
        other = self.make()
        expected = self.make()
        expected.undo()
        with self.held.trial():
            self.changed()
            with other.trial():
                other.undo()
                other.undo()
            other.undo()
        self.assertEqual(self.seen(other), self.seen(expected))

    def test_tried_returns_what_the_function_returns(self):
        for value in (None, 0, "x", (1, 2), self.held, RING):
            self.assertIs(self.held.tried(lambda held: value), value)
            self.assertIs(self.held.tried(action=lambda held: value), value)

    def test_tried_calls_the_function_once(self):
        calls = []

        def action(held):
            calls.append(held)
            self.changed()
            return self.seen(held)

        self.assertNotEqual(self.held.tried(action), self.before)
        self.assertEqual(len(calls), 1)
        self.assertIs(calls[0], self.held)

    def test_tried_passes_on_what_the_function_raises(self):
        def action(held):
            self.changed()
            raise error

        for error in (Stopped(), KeyError("x"), KeyboardInterrupt()):
            for call in (lambda: self.held.tried(action), lambda: self.held.tried(action=action)):
                with self.assertRaises(error.__class__) as caught:
                    call()
                self.assertIs(caught.exception, error)
                self.assertEqual(self.seen(self.held), self.before)

    def test_tried_within_tried(self):
        def outer(held):
            self.extend()
            now = self.seen(held)
            self.assertEqual(held.tried(inner), "inner")
            self.assertEqual(self.seen(held), now)
            return "outer"

        def inner(held):
            self.undone(held)
            self.extend()
            return "inner"

        self.assertEqual(self.held.tried(outer), "outer")
        with self.held.trial():
            self.held.undo()
            self.assertEqual(self.held.tried(outer), "outer")


class BoardTrialTest(TrialTests, unittest.TestCase):
    def make(self):
        board = Board(RING)
        for word in ("a", "b", "ca"):
            board.turn(word)
        return board

    def seen(self, board):
        return test_boards.seen(board)

    def undone(self, board):
        return test_boards.undone(board)

    def change(self):
        self.held.turn("c")
        for _ in range(3):
            self.held.undo()
        self.held.go((("bc", 2), ("a", 1)))

    def extend(self):
        self.held.turn("b")

    def failing(self):
        return [(lambda: self.held.turn("abc", MOST_TIMES), TooGreat), (lambda: self.held.go(5), InvalidTurns)]


class BookTrialTest(TrialTests, unittest.TestCase):
    def make(self):
        book = Book()
        book.do_all(("set", "r", RING), ("set", "s", UP), ("claim", ("kind", "r", "s")), ("set", "p", PATH),
                    ("claim", ("ringed", "r")), ("lift", 0), ("set", "p", UP), ("drop", "p"), ("set", "q", PATH))
        return book

    def seen(self, book):
        return books.seen(book)

    def undone(self, book):
        return books.undone(book)

    def change(self):
        while self.held.changes > 4:
            self.held.undo()
        self.held.drop("p")
        self.held["r"] = UP
        self.held.claim(("turns", "r", "s", 0))
        self.held.lift(0)

    def extend(self):
        self.held["z"] = RING

    def failing(self):
        return [(lambda: self.held.drop("x"), UnknownName), (lambda: self.held.drop("r"), InUse),
                (lambda: self.held.claim(None), InvalidClaim),
                (lambda: self.held.claim(("turns", "r", "r", -1)), InvalidClaim),
                (lambda: self.held.__setitem__("r", PATH), Broken),
                (lambda: self.held.do_all(("drop", "x")), UnknownName)]

    def test_each_change_within_a_trial(self):
        for change in (lambda: self.held.__setitem__("r", UP), lambda: self.held.drop("q"), lambda: self.held.lift(0),
                       lambda: self.held.claim(("ringed", "s")), self.held.undo,
                       lambda: self.held.do_all(("drop", "q"), ("lift", 0))):
            with self.held.trial():
                change()
                self.assertNotEqual(self.seen(self.held), self.before)
            self.assertEqual(self.seen(self.held), self.before)


if __name__ == "__main__":
    unittest.main()
