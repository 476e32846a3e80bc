"""`do_all`: several changes of a book, or none [14]."""

import random
import unittest
from unittest.mock import ANY

from arrowtrios.books import Book
from arrowtrios.errors import (
    Broken, InUse, InvalidClaim, InvalidDeeds, InvalidIndex, InvalidName, NotAStanding, NothingToUndo, UnknownName,
)
from arrowtrios.standings import Standing
from tests.books import PlainBook, seen, undone
from tests.plain import NO_INTEGERS, loop
from tests.test_books import BookTest, caught_error

RING, PATH, UP = Standing(3, 4, 5), Standing(2, 3, 4), Standing(-3, -4, -7)

NO_DEEDS = (*NO_INTEGERS, 0, 5, "set", "drop", ("set",), ("set", "a"), ("set", "a", RING, 1), ("drop",),
            ("drop", "a", "b"),
            ("claim",), ("claim", "ringed", "a"), ("lift",), ("lift", 0, 0), ("undo",), ("undo", 1), ("Set", "a", RING),
            ("put", "a", RING), ("sets", "a", RING), ["set", "a", RING], ["drop", "a"], (None, "a"), (0, "a"),
            (True, "a", RING),
            (("drop",), "a"), (["drop"], "a"), ({"set": 1}, "a", RING), ({"drop"}, "a"), (b"drop", "a"), ("", "a"),
            ("drop a",),
            (RING, "a"), (Book(), "a"), {"drop": "a"}, (str, "a"), (ANY, "a"), (ANY, "a", RING))

GOOD = (("set", "a", RING), ("set", "b", UP), ("claim", ("kind", "a", "b")), ("set", "c", PATH), ("lift", 0),
        ("drop", "q"))


class Stopped(Exception):
    """An error of a test's own."""


def begun():
    """A book with some changes, all of which can be taken back, and one that has been."""
    book = Book()
    book["r"] = RING
    book["s"] = UP
    book.claim(("kind", "r", "s"))
    book.claim(("ringed", "r"))
    book["t"] = PATH
    book["u"] = PATH
    book.undo()
    return book


class DoneTest(BookTest):
    def test_no_deeds(self):
        book = begun()
        before = seen(book)
        self.assertEqual([book.do_all(), book.do_all(watch=None), book.do_all(watch=lambda held: 1 // 0)], [0, 0, 0])
        self.assertEqual(seen(book), before)

    def test_one_deed_of_each_word(self):
        book = begun()
        past = [seen(book)]
        for many, deed in enumerate([("set", "a", RING), ("drop", "t"), ("claim", ("turns", "s", "a", 1)), ("lift", 1)],
                                    6):
            self.assertEqual(book.do_all(deed), 1)
            self.assertEqual(book.changes, many)
            past.append(seen(book))
        self.assertEqual([book.names, book.claims], [("a", "r", "s"), (("kind", "r", "s"), ("turns", "s", "a", 1))])
        self.assertEqual(undone(book)[:4], past[-2::-1])

    def test_several_deeds_count_one_by_one(self):
        book = begun()
        book["q"] = PATH
        before = seen(book)
        told = book.do_all(*GOOD)
        self.assertEqual(told, 6)
        self.assertIs(type(told), int)
        self.assertEqual([book.names, book.changes], [("a", "b", "c", "r", "s", "t"), 12])
        # The claim that was lifted is the first one of all, so the new one is still there.
        self.assertEqual(book.claims, (("ringed", "r"), ("kind", "a", "b")))
        for _ in range(6):
            book.undo()
        self.assertEqual(seen(book), before)

    def test_they_are_done_in_their_order(self):
        book = Book()
        book.do_all(("set", "a", RING), ("set", "a", PATH), ("set", "b", RING), ("drop", "b"), ("set", "b", PATH))
        self.assertEqual([book["a"].numbers, book["b"].numbers, book.changes], [(2, 3, 4), (2, 3, 4), 5])
        self.assertEqual([sorted(standings) for standings, *_ in undone(book)], [["a"], ["a", "b"], ["a"], ["a"], []])

    def test_deeds_by_hand_do_the_same(self):
        one, other = Book(), Book()
        deeds = [("set", "a", RING), ("set", "b", UP), ("claim", ("kind", "a", "b")), ("set", "c", PATH), ("lift", 0),
                 ("drop", "a")]
        self.assertEqual(one.do_all(*deeds), 6)
        other["a"] = RING
        other["b"] = UP
        other.claim(("kind", "a", "b"))
        other["c"] = PATH
        other.lift(0)
        other.drop("a")
        self.assertEqual(seen(one), seen(other))
        self.assertEqual(undone(one), undone(other))


class WatchTest(BookTest):
    def test_right_behind_each_deed(self):
        book = Book()
        calls = []
        deeds = (("set", "a", RING), ("set", "b", UP), ("claim", ("kind", "a", "b")), ("set", "a", UP), ("lift", 0),
                 ("drop", "a"))

        def watch(held):
            self.assertIs(held, book)
            calls.append(seen(held))
            return "not looked at"

        self.assertEqual(book.do_all(*deeds, watch=watch), 6)
        plain = PlainBook()
        expected = []
        for word, *rest in deeds:
            if word == "set":
                plain.put(rest[0], rest[1].numbers)
            else:
                getattr(plain, word)(*rest)
            expected.append(plain.seen())
        self.assertEqual(calls, expected)

    def test_deeds_ahead_of_one_that_fails(self):
        book = begun()
        calls = []
        for deed, error_class in [(("drop", "r"), InUse), (("drop", "x"), UnknownName), (("lift", 9), InvalidIndex),
                                  (("claim", ("ringed", "t")), Broken), (("set", "r", PATH), Broken)]:
            calls.clear()
            self.refused(book, error_class, lambda: book.do_all(
                ("set", "a", RING), ("drop", "a"), deed, ("set", "z", RING),
                watch=lambda held: calls.append(held.names)))
            self.assertEqual(calls, [("a", "r", "s", "t"), ("r", "s", "t")])

    def test_an_error_of_watch_is_passed_on(self):
        book = begun()
        for error in (Stopped("x"), ValueError(), KeyError(), KeyboardInterrupt(), SystemExit(2), Broken(0),
                      StopIteration()):
            for last in (1, 2, 3):
                calls = []

                def watch(held):
                    calls.append(held.changes)
                    if len(calls) == last:
                        raise error

                before = seen(book)
                with self.assertRaises(error.__class__) as caught:
                    book.do_all(("set", "a", RING), ("claim", ("ringed", "a")), ("lift", 0), watch=watch)
                self.assertIs(caught.exception, error)
                self.assertEqual(seen(book), before)
                self.assertEqual(calls, [6, 7, 8][:last])

    def test_not_called_when_a_deed_is_no_deed(self):
        book = begun()
        calls = []
        self.refused(book, InvalidDeeds, lambda: book.do_all(("drop", "t"), ("drop",), watch=calls.append), index=1)
        self.assertEqual(calls, [])

    def test_watch_may_read_and_try(self):
        book = begun()

        def watch(held):
            held.tried(lambda again: again.do_all(("set", "q", PATH), ("drop", "t")))
            with held.trial():
                while held.changes > 0:
                    held.undo()

        self.assertEqual(book.do_all(("set", "a", RING), ("claim", ("ringed", "a")), watch=watch), 2)
        self.assertEqual([book.names, book.changes], [("a", "r", "s", "t"), 7])


class FailingTest(BookTest):
    def test_what_is_no_deed(self):
        book = begun()
        for value in NO_DEEDS:
            self.refused(book, InvalidDeeds, lambda: book.do_all(value), index=0)
            self.refused(book, InvalidDeeds, lambda: book.do_all(("set", "a", RING), value), index=1)
            self.refused(book, InvalidDeeds, lambda: book.do_all(value, value, None), index=0)
            # Ahead of what fails, though it stands further behind.
            self.refused(book, InvalidDeeds, lambda: book.do_all(("drop", "x"), ("lift", -1), value, ("drop",)),
                         index=2)

    def test_the_error_of_the_first_deed_that_fails(self):
        book = begun()
        fails = [
            (("set", "A", RING), InvalidName, {"given": "A"}), (("set", None, None), InvalidName, {"given": None}),
            (("set", "a", None), NotAStanding, {"given": None}), (("set", "r", PATH), Broken, {"index": 0}),
            (("drop", "x"), UnknownName, {"given": "x"}), (("drop", "r"), InUse, {"index": 0}),
            (("claim", None), InvalidClaim, {"given": None}),
            (("claim", ("kind", "r", "x")), UnknownName, {"given": "x"}),
            (("claim", ("kind", "r", "t")), Broken, {"index": 2}), (("lift", 2), InvalidIndex, {"given": 2}),
            (("lift", True), InvalidIndex, {"given": True}),
        ]
        for deed, error_class, attributes in fails:
            self.refused(book, error_class, lambda: book.do_all(deed), **attributes)
            self.refused(book, error_class, lambda: book.do_all(("set", "q", RING), deed, ("drop", "nobody")),
                         **attributes)
            self.refused(book, error_class, lambda: book.do_all(("drop", "t"), ("set", "t", PATH), deed, deed),
                         **attributes)

    def test_the_book_as_it_was_with_all_that_can_be_taken_back(self):
        book, other = begun(), begun()
        for deeds in [(("set", "a", RING), ("drop", "x")), (("lift", 0), ("lift", 0), ("drop", "r"), ("drop", "r"))]:
            self.assertIsNotNone(caught_error(lambda: book.do_all(*deeds)))
            self.assertEqual(seen(book), seen(other))
        self.assertEqual(undone(book), undone(other))
        self.refused(book, NothingToUndo, book.undo)

    def test_claims_hold_behind_each_deed(self):
        book = Book()
        book.do_all(("set", "a", RING), ("set", "b", RING), ("claim", ("kind", "a", "b")))
        # Both together would be of one kind again, but not behind the first one of them.
        self.refused(book, Broken, lambda: book.do_all(("set", "a", PATH), ("set", "b", PATH)), index=0)
        self.assertEqual(book.do_all(("lift", 0), ("set", "a", PATH), ("set", "b", PATH),
                                     ("claim", ("kind", "a", "b"))), 4)

    def test_drawn_deeds_against_a_plain_book(self):
        draw = random.Random(73)
        done = failed = 0
        for _ in range(60):
            book, plain = Book(), PlainBook()
            for _ in range(12):
                deeds = [self.drawn(draw) for _ in range(draw.randint(1, 4))]
                before = plain.standings, plain.claims, list(plain.past)
                expected = caught_error(lambda: [self.do_plainly(plain, deed) for deed in deeds])
                error = caught_error(lambda: self.assertEqual(book.do_all(*deeds), len(deeds)))
                self.assertIs(error.__class__, expected.__class__)
                if expected is not None:
                    plain.standings, plain.claims, plain.past = before
                    self.assertEqual(vars(error), vars(expected))
                done, failed = done + (error is None), failed + (error is not None)
                self.assertEqual(seen(book), plain.seen())
        self.assertGreater(min(done, failed), 50)

    def drawn(self, draw):
        name, other = draw.choice("abc"), draw.choice("abc")
        return draw.choice([
            ("set", name, Standing(*loop((3, 4, 5), draw.choice(["", "a", "bc"])))), ("set", name, RING),
            ("set", other, PATH),
            ("drop", name), ("claim", ("kind", name, other)), ("claim", ("ringed", name)), ("lift", draw.randint(0, 2)),
            ("claim", ("turns", name, other, draw.randint(0, 3))),
        ])

    def do_plainly(self, plain, deed):
        word, *rest = deed
        if word == "set":
            plain.put(rest[0], rest[1].numbers)
        else:
            getattr(plain, word)(*rest)


if __name__ == "__main__":
    unittest.main()
