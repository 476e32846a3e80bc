"""Boards: turns and rows of turns as steps, and steps taken back [6] [7] [8]."""

import random
import unittest

from arrowtrios.boards import Board
from arrowtrios.errors import InvalidTurns, NotAStanding, NothingToUndo, TooGreat
from arrowtrios.standings import Standing
from tests.plain import GREATEST, MOST_TIMES, NO_INTEGERS, loop, loop_row, too_great_at
from tests.test_given import NO_STANDINGS

NO_WORDS = (None, True, 0, 3, "", "d", "abd", "A", "a b", "a ", "ab\n", "abcabcabcabca", b"ab", ("a", "b"), ["a"], (),
            [],
            {}, {"a": 1}, object(), Standing(3, 4, 5), str)

NO_TIMES = (-1, -2, MOST_TIMES + 1, 10 ** 350, *NO_INTEGERS)


def seen(board):
    """All that a board tells of itself."""
    return board.numbers, board.changes, board.standing().numbers


def undone(board):
    """The numbers behind each step back, down to the beginning; the board is there then."""
    found = []
    while board.changes > 0:
        board.undo()
        found.append(board.numbers)
    return found


class StepsTest(unittest.TestCase):
    def test_a_new_board(self):
        for numbers in [(3, 4, 5), (0, 0, 0), (GREATEST, -GREATEST, GREATEST), (-1, 2, 0)]:
            for board in (Board(Standing(*numbers)), Board(standing=Standing(*numbers))):
                self.assertEqual(seen(board), (numbers, 0, numbers))
                self.assertIsInstance(board.standing(), Standing)
                self.assertTrue(board.standing() == Standing(*numbers))

    def test_what_is_no_standing(self):
        for value in NO_STANDINGS + (Board(Standing(3, 4, 5)),):
            with self.assertRaises(NotAStanding) as caught:
                Board(value)
            self.assertIs(caught.exception.given, value)
            with self.assertRaises(NotAStanding):
                Board(standing=value)

    def test_turns_by_place_and_by_name(self):
        numbers = (3, 4, 5)
        board = Board(Standing(*numbers))
        calls = [
            (lambda: board.turn("b"), "b", 1), (lambda: board.turn("ab", 2), "ab", 2),
            (lambda: board.turn(word="ca"), "ca", 1), (lambda: board.turn("ac", times=3), "ac", 3),
            (lambda: board.turn(times=2, word="bc"), "bc", 2), (lambda: board.turn("abc", 0), "abc", 0),
            (lambda: board.turn("aa", 7), "aa", 7), (lambda: board.turn("abcabcabcabc", times=0), "a", 0),
        ]
        for many, (call, word, times) in enumerate(calls, 1):
            self.assertIsNone(call())
            numbers = loop(numbers, word, times)
            self.assertEqual(seen(board), (numbers, many, numbers))

    def test_rows_are_one_step_each(self):
        numbers = (2, 3, 4)
        board = Board(Standing(*numbers))
        rows = [(), (("b", 1),), (("ba", 1), ("c", 2)), (("ab", 0),), (("a", 1),) * 200,
                (("cb", 3), ("bc", 3), ("ab", 40))]
        for many, row in enumerate(rows, 1):
            self.assertIsNone(board.go(row) if many % 2 else board.go(turns=row))
            numbers = loop_row(numbers, row)
            self.assertEqual(seen(board), (numbers, many, numbers))
        self.assertEqual(undone(board), [loop_row((2, 3, 4), sum(rows[:many], ())) for many in range(5, -1, -1)])

    def test_drawn_steps_and_steps_back(self):
        draw = random.Random(61)
        for _ in range(60):
            past = [tuple(draw.randint(-4, 4) for _ in range(3))]
            board = Board(Standing(*past[0]))
            for _ in range(40):
                word = "".join(draw.choice("abc") for _ in range(draw.randint(1, 4)))
                times = draw.randint(0, 3)
                deed = draw.choice(["turn", "go", "undo"])
                if deed == "undo":
                    self.check_undo(board, past)
                    continue
                behind = loop(past[-1], word, times)
                if max(abs(number) for number in behind) > GREATEST:
                    continue
                self.assertIsNone(board.turn(word, times) if deed == "turn" else board.go(((word, times),)))
                past.append(behind)
                self.assertEqual(seen(board), (past[-1], len(past) - 1, past[-1]))

    def check_undo(self, board, past):
        if len(past) == 1:
            with self.assertRaises(NothingToUndo):
                board.undo()
        else:
            self.assertIsNone(board.undo())
            past.pop()
        self.assertEqual(seen(board), (past[-1], len(past) - 1, past[-1]))

    def test_steps_that_change_nothing_count(self):
        board = Board(Standing(3, 4, 5))
        for many, step in enumerate([lambda: board.turn("a", 0), lambda: board.go(()), lambda: board.turn("bb")], 1):
            step()
            self.assertEqual(seen(board), ((3, 4, 5), many, (3, 4, 5)))
        self.assertEqual(undone(board), [(3, 4, 5)] * 3)

    def test_what_was_given_and_told_stays_as_it_is(self):
        standing = Standing(3, 4, 5)
        board = Board(standing)
        row = (("b", 1), ("ab", 2))
        board.go(row)
        told = board.standing()
        board.turn("c")
        board.undo()
        board.undo()
        self.assertEqual([standing.numbers, row], [(3, 4, 5), (("b", 1), ("ab", 2))])
        self.assertEqual(told.numbers, loop_row((3, 4, 5), row))

    def test_boards_do_not_change_one_another(self):
        standing = Standing(3, 4, 5)
        one, other = Board(standing), Board(standing)
        one.turn("a")
        third = Board(one.standing())
        third.turn("b")
        self.assertEqual([seen(one)[:2], seen(other)[:2]], [(loop((3, 4, 5), "a"), 1), ((3, 4, 5), 0)])
        self.assertEqual(seen(third)[:2], (loop((3, 4, 5), "ab"), 1))


class UndoTest(unittest.TestCase):
    def test_back_to_the_beginning(self):
        board = Board(Standing(3, 4, 5))
        past = []
        for letter in "abcbacbacb":
            past.append(board.numbers)
            board.turn(letter)
        self.assertEqual(undone(board), past[::-1])
        for _ in range(2):
            with self.assertRaises(NothingToUndo):
                board.undo()
            self.assertEqual(seen(board), ((3, 4, 5), 0, (3, 4, 5)))

    def test_steps_behind_steps_back(self):
        board = Board(Standing(3, 4, 5))
        for step in (lambda: board.turn("a"), lambda: board.turn("b"), board.undo, lambda: board.turn("c"), board.undo,
                     lambda: board.go((("bc", 1),)), lambda: board.turn("a")):
            step()
        self.assertEqual(seen(board)[:2], (loop((3, 4, 5), "abca"), 3))
        self.assertEqual(undone(board), [loop((3, 4, 5), "abc"), loop((3, 4, 5), "a"), (3, 4, 5)])

    def test_a_hundred_thousand_steps(self):
        board = Board(Standing(3, 4, 5))
        for _ in range(100000):
            board.turn("b")
        self.assertEqual(board.changes, 100000)
        for _ in range(99999):
            board.undo()
        self.assertEqual(seen(board)[:2], ((-3, -4, -7), 1))


class ErrorsTest(unittest.TestCase):
    def setUp(self):
        self.board = Board(Standing(3, 4, 5))
        self.board.turn("b")
        self.board.turn("a")

    def refused(self, error_class, index, call):
        """Ask for an error, and for a board on which nothing has changed."""
        before = seen(self.board)
        with self.assertRaises(error_class) as caught:
            call()
        self.assertIs(caught.exception.__class__, error_class)
        self.assertEqual(caught.exception.index, index)
        self.assertIs(type(caught.exception.index), type(index))
        self.assertEqual(seen(self.board), before)

    def tearDown(self):
        # What was refused cannot be taken back.
        self.assertEqual(undone(self.board), [(-3, -4, -7), (3, 4, 5)])

    def test_what_is_no_pair(self):
        for word in NO_WORDS:
            self.refused(InvalidTurns, 0, lambda word=word: self.board.turn(word))
            self.refused(InvalidTurns, 0, lambda word=word: self.board.turn(word, 2))
            self.refused(InvalidTurns, 0, lambda word=word: self.board.turn(times=None, word=word))
        for times in NO_TIMES:
            self.refused(InvalidTurns, 0, lambda times=times: self.board.turn("a", times))
            self.refused(InvalidTurns, 0, lambda times=times: self.board.turn("ab", times=times))

    def test_what_is_no_row_of_turns(self):
        for value in (None, True, 0, "ab", [("a", 1)], {"a": 1}, object(), self.board):
            self.refused(InvalidTurns, None, lambda value=value: self.board.go(value))
        for value in (None, ("a",), ("a", 1, 1), ["a", 1], ("a", -1), ("", 1), "a1", ("a", True), ("d", 1)):
            self.refused(InvalidTurns, 0, lambda value=value: self.board.go((value,)))
            self.refused(InvalidTurns, 2, lambda value=value: self.board.go((("a", 1), ("b", 0), value, value)))
            self.refused(InvalidTurns, 1, lambda value=value: self.board.go(turns=(("abc", MOST_TIMES), value)))
        self.refused(InvalidTurns, 200, lambda: self.board.go((("a", 1),) * 201))

    def test_too_great(self):
        self.refused(TooGreat, 0, lambda: self.board.turn("abc", MOST_TIMES))
        self.refused(TooGreat, 0, lambda: self.board.turn(word="ab", times=10 ** 9))
        self.refused(TooGreat, 0, lambda: self.board.go((("abc", MOST_TIMES),)))
        self.refused(TooGreat, 2, lambda: self.board.go((("a", 1), ("bb", 3), ("cb", 10 ** 4), ("bc", 10 ** 4))))

    def test_the_first_pair_behind_which_it_is_too_great(self):
        draw = random.Random(62)
        found = 0
        for _ in range(60):
            row = tuple(("".join(draw.choice("abc") for _ in range(draw.randint(1, 6))), draw.randint(0, 4))
                        for _ in range(9))
            index = too_great_at(self.board.numbers, row[:4])
            if index is not None:
                found += 1
                self.refused(TooGreat, index, lambda row=row: self.board.go(row))
        self.assertGreater(found, 10)


class FarTest(unittest.TestCase):
    def test_words_that_fall_to_one_letter_or_none(self):
        for numbers in [(3, 4, 5), (-2, 0, 7), (GREATEST, GREATEST, -GREATEST), (2, 2, 2)]:
            board = Board(Standing(*numbers))
            for word in ("aa", "abba", "cbaabc", "bcacacacb"):
                board.turn(word, MOST_TIMES)
                board.turn(word, times=MOST_TIMES - 2)
            self.assertEqual(seen(board)[:2], (numbers, 8))
        board = Board(Standing(3, 4, 5))
        board.turn("b", MOST_TIMES - 1)
        self.assertEqual(board.numbers, (-3, -4, -7))
        board.turn("cac", MOST_TIMES - 1)
        self.assertEqual(board.numbers, loop((-3, -4, -7), "cac"))
        board.turn("cac", MOST_TIMES)
        self.assertEqual(seen(board)[:2], (loop((-3, -4, -7), "cac"), 3))

    def test_up_and_back_beside_a_tie_of_two_arrows(self):
        for times in (10 ** 289, 10 ** 290 - 1, 123456789 * 10 ** 281 + 7):
            board = Board(Standing(2, 3, 4))
            board.turn("ab", times)
            self.assertEqual(board.numbers, (2, 2 * times + 3, 2 * times + 4))
            board.turn("ba", times - 5)
            self.assertEqual(board.numbers, loop((2, 3, 4), "ab", 5))
            board.go((("ab", times), ("ba", times + 5)))
            self.assertEqual(board.numbers, (2, 3, 4))
            board.undo()
            board.undo()
            self.assertEqual(seen(board)[:2], ((2, 2 * times + 3, 2 * times + 4), 1))

    def test_up_to_just_the_greatest_size_and_one_beyond(self):
        half = (GREATEST - 4) // 2
        for tie, word in [((2, 3, 4), "ab"), ((4, 2, 3), "bc"), ((3, 4, 2), "ca")]:
            board = Board(Standing(*tie))
            board.turn(word, half)
            self.assertEqual(sorted(board.numbers), [2, GREATEST - 1, GREATEST])
            before = seen(board)
            for call in (lambda: board.turn(word[0]), lambda: board.turn(word), lambda: board.turn(word, 10 ** 300)):
                with self.assertRaises(TooGreat) as caught:
                    call()
                self.assertEqual(caught.exception.index, 0)
                self.assertEqual(seen(board), before)
            board.turn(word[::-1], half)
            self.assertEqual(seen(board)[:2], (tie, 2))
            with self.assertRaises(TooGreat):
                board.turn(word, half + 1)
            self.assertEqual(undone(board), [before[0], tie])


class EqualTest(unittest.TestCase):
    def test_equal_only_to_itself(self):
        board, other = Board(Standing(3, 4, 5)), Board(Standing(3, 4, 5))
        self.assertIs(board == board, True)
        self.assertIs(board != board, False)
        self.assertIs(board == other, False)
        self.assertIs(board != other, True)
        for value in (*NO_INTEGERS, (3, 4, 5), board.standing(), Board):
            self.assertIs(board == value, False)
            self.assertIs(value == board, False)
            self.assertIs(board != value, True)
        board.turn("a")
        self.assertIs(board == board, True)

    def test_boards_are_true(self):
        board = Board(Standing(0, 0, 0))
        self.assertIs(bool(board), True)
        board.turn("a")
        self.assertIs(bool(board), True)


if __name__ == "__main__":
    unittest.main()
