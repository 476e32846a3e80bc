"""Trials of boards: behind them a board is as it was, in all."""

import unittest

from arrowtrios.boards import Board
from arrowtrios.errors import InvalidTurns, NothingToUndo, TooGreat
from arrowtrios.standings import Standing
from tests.plain import MOST_TIMES
from tests.test_boards import seen, undone


class Stopped(Exception):
    """An error of a test's own."""


class TrialTest(unittest.TestCase):
    def setUp(self):
        self.board = Board(Standing(3, 4, 5))
        for word in ("a", "b", "ca"):
            self.board.turn(word)
        self.before = seen(self.board)
        copy = Board(Standing(3, 4, 5))
        for word in ("a", "b", "ca"):
            copy.turn(word)
        self.past = undone(copy)

    def tearDown(self):
        # All that can be taken back is as it was, too.
        self.assertEqual(seen(self.board), self.before)
        self.assertEqual(undone(self.board), self.past)

    def change(self):
        """Do some steps, and take back more than these."""
        self.board.turn("c")
        for _ in range(3):
            self.board.undo()
        self.board.go((("bc", 2), ("a", 1)))
        self.assertNotEqual(seen(self.board), self.before)

    def test_as_gives_the_board(self):
        with self.board.trial() as held:
            self.assertIs(held, self.board)
            self.assertEqual(seen(held), self.before)
            self.change()
            self.assertEqual(seen(held), seen(self.board))

    def test_a_trial_without_a_name(self):
        with self.board.trial():
            self.change()

    def test_nothing_is_done(self):
        with self.board.trial():
            pass

    def test_steps_back_to_the_beginning(self):
        with self.board.trial():
            undone(self.board)
            with self.assertRaises(NothingToUndo):
                self.board.undo()
            self.board.turn("b")

    def test_an_exception_is_passed_on(self):
        for error in (Stopped("x"), ValueError(), KeyboardInterrupt(), SystemExit(3), StopIteration(), GeneratorExit()):
            with self.assertRaises(error.__class__) as caught:
                with self.board.trial():
                    self.change()
                    raise error
            self.assertIs(caught.exception, error)
            self.assertEqual(seen(self.board), self.before)

    def test_errors_of_the_board_are_passed_on(self):
        for call, error_class in [(lambda: self.board.turn("abc", MOST_TIMES), TooGreat), (lambda: self.board.go(5), InvalidTurns)]:
            with self.assertRaises(error_class):
                with self.board.trial():
                    self.change()
                    call()
            self.assertEqual(seen(self.board), self.before)

    def test_return_break_and_continue(self):
        def leave():
            with self.board.trial():
                self.change()
                return self.board.numbers
        self.assertNotEqual(leave(), self.before[0])
        for way in range(3):
            for _ in range(2):
                with self.board.trial():
                    self.change()
                    if way == 0:
                        break
                    if way == 1:
                        continue
            self.assertEqual(seen(self.board), self.before)

    def test_the_board_as_it_was_when_the_rows_began(self):
        trial = self.board.trial()
        self.board.turn("b")
        now = seen(self.board)
        with trial:
            self.board.undo()
            self.board.undo()
        self.assertEqual(seen(self.board), now)
        self.board.undo()
        with trial:
            self.change()

    def test_trials_within_trials(self):
        with self.board.trial() as one:
            self.change()
            middle = seen(self.board)
            with self.board.trial() as other:
                self.assertIs(one, other)
                undone(self.board)
                self.board.turn("a")
                inner = seen(self.board)
                with self.board.trial():
                    self.board.turn("cba")
                self.assertEqual(seen(self.board), inner)
            self.assertEqual(seen(self.board), middle)

    def test_the_same_trial_within_itself(self):
        trial = self.board.trial()
        with trial as one:
            self.change()
            middle = seen(self.board)
            with trial as other:
                self.assertIs(other, one)
                undone(self.board)
                inner = seen(self.board)
                with self.assertRaises(Stopped):
                    with trial:
                        self.board.turn("c")
                        raise Stopped()
                self.assertEqual(seen(self.board), inner)
            self.assertEqual(seen(self.board), middle)
            with trial:
                self.board.undo()
            self.assertEqual(seen(self.board), middle)

    def test_the_same_trial_again_and_again(self):
        trial = self.board.trial()
        for _ in range(3):
            with trial:
                self.change()
            self.assertEqual(seen(self.board), self.before)

    def test_an_exception_through_several_trials(self):
        trial = self.board.trial()
        with self.assertRaises(Stopped):
            with trial, self.board.trial():
                self.change()
                with trial:
                    self.board.undo()
                    raise Stopped()

    def test_trials_of_two_boards(self):
        other = Board(Standing(2, 3, 4))
        with self.board.trial():
            self.change()
            with other.trial():
                other.turn("a")
            other.turn("b")
        self.assertEqual(seen(other)[:2], ((-2, -3, -2), 1))


class TriedTest(TrialTest):
    """The same board, with functions that are called within trials."""

    def test_what_the_function_returns(self):
        for value in (None, 0, "x", (1, 2), self.board, Standing(1, 2, 3)):
            self.assertIs(self.board.tried(lambda held, value=value: value), value)
            self.assertIs(self.board.tried(action=lambda held, value=value: value), value)

    def test_the_function_is_called_once_with_the_board(self):
        calls = []

        def action(held):
            calls.append(held)
            self.change()
            return held.numbers

        self.assertNotEqual(self.board.tried(action), self.before[0])
        self.assertEqual(len(calls), 1)
        self.assertIs(calls[0], self.board)

    def test_what_the_function_raises(self):
        def action(held):
            self.change()
            raise error

        for error in (Stopped(), KeyError("x"), KeyboardInterrupt()):
            with self.assertRaises(error.__class__) as caught:
                self.board.tried(action)
            self.assertIs(caught.exception, error)
            self.assertEqual(seen(self.board), self.before)
            with self.assertRaises(error.__class__):
                self.board.tried(action=action)

    def test_tried_within_tried(self):
        def outer(held):
            held.turn("b")
            now = seen(held)
            self.assertEqual(held.tried(inner), "inner")
            self.assertEqual(seen(held), now)
            return "outer"

        def inner(held):
            undone(held)
            held.turn("c")
            return "inner"

        self.assertEqual(self.board.tried(outer), "outer")
        with self.board.trial():
            self.board.undo()
            self.assertEqual(self.board.tried(outer), "outer")


if __name__ == "__main__":
    unittest.main()
