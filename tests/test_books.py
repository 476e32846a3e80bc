"""Books: standings under names, steps back, and errors that change nothing [14]."""

import unittest

from arrowtrios.books import Book
from arrowtrios.boards import Board
from arrowtrios.errors import (
    Broken, InUse, InvalidName, NotAStanding, NothingToUndo, UnknownName,
)
from arrowtrios.standings import Standing
from tests.books import seen, undone
from tests.plain import GREATEST, NO_INTEGERS
from tests.test_given import NO_STANDINGS

RING, PATH, UP = Standing(3, 4, 5), Standing(2, 3, 4), Standing(-3, -4, -7)

NO_NAMES = ("", "abcdefghi", "A", "aB", "a b", " a", "a ", "a\n", "\n", "a1", "1", "a_b", "-", "=", "a-", "ABC",
            "a" * 2000,
            None, True, False, 0, 1, 10 ** 300, b"a", (), ("a",), ["a"], [], {}, {"a": 1}, {"a"}, object(), RING, str)


def caught_error(call):
    """The error that a call raises, None if it raises none."""
    try:
        call()
    except Exception as error:
        return error
    return None


class BookTest(unittest.TestCase):
    """What the other tests of books ask."""

    def refused(self, book, error_class, call, **attributes):
        """Ask for an error with these attributes, and for a book in which nothing has changed."""
        before = seen(book)
        error = caught_error(call)
        self.assertIs(error.__class__, error_class, error)
        for name, value in attributes.items():
            found = getattr(error, name)
            self.assertTrue(found is value or (found == value and isinstance(value, int)), (found, value))
        self.assertEqual(seen(book), before)


class StandingsTest(BookTest):
    def test_a_new_book(self):
        book = Book()
        self.assertEqual([book.names, book.claims, book.changes, len(book), bool(book)], [(), (), 0, 0, False])
        self.assertEqual([type(book.names), type(book.claims)], [tuple, tuple])

    def test_put_and_read(self):
        book = Book()
        book["r"] = RING
        self.assertIs(book["r"], RING)
        book["abcdefgh"] = PATH
        book["z"] = RING
        self.assertEqual([book["r"].numbers, book["abcdefgh"].numbers], [(3, 4, 5), (2, 3, 4)])
        self.assertEqual([book.names, len(book), book.changes, bool(book)], [("abcdefgh", "r", "z"), 3, 3, True])

    def test_names_are_ascending(self):
        book = Book()
        for name in ("b", "ab", "a", "zz", "z", "aa", "abc", "drop", "undo", "least", "ba"):
            book[name] = RING
        self.assertEqual(book.names, ("a", "aa", "ab", "abc", "b", "ba", "drop", "least", "undo", "z", "zz"))
        self.assertEqual(len(book), 11)

    def test_in_the_place_of_another_one(self):
        book = Book()
        book["a"] = RING
        book["a"] = PATH
        self.assertEqual([book["a"].numbers, book.names, len(book), book.changes], [(2, 3, 4), ("a",), 1, 2])
        book["a"] = PATH
        self.assertEqual(book.changes, 3)
        self.assertEqual([numbers for numbers, *_ in undone(book)], [{"a": (2, 3, 4)}, {"a": (3, 4, 5)}, {}])

    def test_taken_away(self):
        book = Book()
        book["a"] = RING
        book["b"] = PATH
        self.assertIsNone(book.drop("a"))
        self.assertEqual([book.names, len(book), book.changes, "a" in book], [("b",), 1, 3, False])
        self.assertIsNone(book.drop(name="b"))
        self.assertEqual([book.names, len(book), book.changes, bool(book)], [(), 0, 4, False])
        book["a"] = UP
        self.assertEqual(book["a"].numbers, (-3, -4, -7))

    def test_in_for_any_value(self):
        book = Book()
        book["a"] = RING
        book["abc"] = PATH
        for name in ("a", "abc"):
            self.assertIs(name in book, True)
            self.assertIs(name not in book, False)
        for value in (*NO_NAMES, "b", "ab", "bc", RING, PATH, book, ("a",), ["a"], {"a": RING}):
            self.assertIs(value in book, False)
            self.assertIs(value not in book, True)

    def test_what_is_no_name(self):
        book = Book()
        book["a"] = RING
        for value in NO_NAMES:
            for standing in (RING, None, (3, 4, 5)):
                self.refused(book, InvalidName, lambda: book.__setitem__(value, standing), given=value)

    def test_names_of_one_to_eight_letters(self):
        book = Book()
        names = ["abcdefghijklmnopqrstuvwxyz"[at:at + 1 + at % 8] for at in range(26)]
        for name in names:
            book[name] = RING
        self.assertEqual(book.names, tuple(sorted(names)))

    def test_what_is_no_standing(self):
        book = Book()
        book["a"] = RING
        for value in NO_STANDINGS + (book, Board(RING)):
            for name in ("a", "b"):
                self.refused(book, NotAStanding, lambda: book.__setitem__(name, value), given=value)

    def test_unknown_names(self):
        book = Book()
        book["a"] = RING
        book["b"] = PATH
        book.drop("b")
        for value in (*NO_NAMES, "b", "c", "aa", "abcdefgh", RING, book):
            self.refused(book, UnknownName, lambda: book[value], given=value)
            self.refused(book, UnknownName, lambda: book.drop(value), given=value)
            self.refused(book, UnknownName, lambda: book.drop(name=value), given=value)

    def test_a_name_in_use(self):
        book = Book()
        for name in "abcd":
            book[name] = RING
        for claim in [("ringed", "b"), ("kind", "a", "b"), ("never", "c", 2, (0, 0, 0)), ("turns", "b", "c", 0),
                      ("alike", "b", "a")]:
            book.claim(claim)
        for name, index in [("a", 1), ("b", 0), ("c", 2)]:
            self.refused(book, InUse, lambda: book.drop(name), index=index)
        self.assertIsNone(book.drop("d"))
        book.lift(0)
        self.refused(book, InUse, lambda: book.drop("b"), index=0)
        book.lift(0)
        self.refused(book, InUse, lambda: book.drop("a"), index=2)
        book.lift(2)
        self.assertIsNone(book.drop("a"))
        self.refused(book, InUse, lambda: book.drop("c"), index=0)
        self.assertEqual(book.names, ("b", "c"))

    def test_a_name_that_is_a_number_or_a_word_of_a_claim_is_not_in_use(self):
        book = Book()
        for name in ("kind", "ringed", "never", "turns", "alike", "x"):
            book[name] = RING
        for claim in [("ringed", "x"), ("kind", "x", "x"), ("never", "x", 2, (0, 0, 0)), ("turns", "x", "x", 0)]:
            book.claim(claim)
        for name in ("kind", "ringed", "never", "turns", "alike"):
            self.assertIsNone(book.drop(name))
        self.assertEqual(book.names, ("x",))

    def test_great_standings(self):
        book = Book()
        for name, numbers in [("a", (GREATEST, -GREATEST, GREATEST)), ("b", (0, 0, 0)), ("c", (-GREATEST,) * 3)]:
            book[name] = Standing(*numbers)
            self.assertEqual(book[name].numbers, numbers)


class UndoTest(BookTest):
    def test_nothing_to_undo(self):
        book = Book()
        self.refused(book, NothingToUndo, book.undo)
        book["a"] = RING
        self.assertIsNone(book.undo())
        self.refused(book, NothingToUndo, book.undo)

    def test_each_change_back_to_the_beginning(self):
        book = Book()
        past = []
        changes = [
            lambda: book.__setitem__("a", RING), lambda: book.__setitem__("b", UP),
            lambda: book.claim(("kind", "a", "b")),
            lambda: book.claim(("kind", "a", "b")), lambda: book.lift(0), lambda: book.__setitem__("b", RING),
            lambda: book.__setitem__("b", RING), lambda: book.__setitem__("c", PATH), lambda: book.lift(0),
            lambda: book.drop("a"), lambda: book.drop("b"), lambda: book.drop("c"), lambda: book.__setitem__("b", PATH),
        ]
        for many, change in enumerate(changes, 1):
            past.append(seen(book))
            self.assertIsNone(change())
            self.assertEqual(book.changes, many)
        self.assertEqual(undone(book), past[::-1])
        self.refused(book, NothingToUndo, book.undo)

    def test_what_raised_an_error_cannot_be_taken_back(self):
        book = Book()
        book["a"] = RING
        book.claim(("ringed", "a"))
        for call in (lambda: book.__setitem__("a", PATH), lambda: book.__setitem__("A", RING), lambda: book.drop("a"),
                     lambda: book.drop("b"), lambda: book.lift(1), lambda: book.claim(("kind", "a", "c")),
                     lambda: book.claim(("never", "a", 2, (1, 0, 1))), lambda: book["c"], lambda: book.claim(None)):
            self.assertIsNotNone(caught_error(call))
            self.assertEqual(book.changes, 2)
        self.assertEqual([claims for _, claims, *_ in undone(book)], [(), ()])

    def test_changes_behind_steps_back(self):
        book = Book()
        book["a"] = RING
        book["b"] = PATH
        book.undo()
        book["c"] = UP
        self.assertEqual([book.names, book.changes], [("a", "c"), 2])
        book.undo()
        book.claim(("ringed", "a"))
        book.undo()
        book.undo()
        self.assertEqual([book.names, book.claims, book.changes], [(), (), 0])

    def test_steps_back_lead_to_books_whose_claims_hold(self):
        book = Book()
        book["a"] = RING
        book["a"] = PATH
        book["b"] = PATH
        book.claim(("kind", "a", "b"))
        self.refused(book, Broken, lambda: book.__setitem__("a", RING), index=0)
        book.undo()
        book["a"] = RING
        self.refused(book, Broken, lambda: book.claim(("kind", "a", "b")), index=0)
        book.undo()
        book.claim(("kind", "b", "a"))
        self.assertEqual(book.claims, (("kind", "b", "a"),))

    def test_many_changes(self):
        book = Book()
        for many in range(2000):
            book["ab"[many % 2]] = Standing(many, 1, 1)
        self.assertEqual([book.changes, book["a"].numbers, book["b"].numbers], [2000, (1998, 1, 1), (1999, 1, 1)])
        for _ in range(1990):
            book.undo()
        self.assertEqual([book.changes, book["a"].numbers, book["b"].numbers], [10, (8, 1, 1), (9, 1, 1)])


class EqualTest(unittest.TestCase):
    def test_equal_only_to_itself(self):
        one, other = Book(), Book()
        self.assertIs(one == one, True)
        self.assertIs(one != one, False)
        for book in (one, other):
            book["a"] = RING
        self.assertIs(one == other, False)
        self.assertIs(one != other, True)
        for value in (*NO_INTEGERS, {"a": RING}, one.names, Book, RING):
            self.assertIs(one == value, False)
            self.assertIs(value == one, False)
            self.assertIs(one != value, True)

    def test_books_do_not_change_one_another(self):
        one, other = Book(), Book()
        one["a"] = RING
        other["a"] = one["a"]
        one.claim(("ringed", "a"))
        other["a"] = PATH
        other["b"] = RING
        self.assertEqual([one.names, one.claims, one["a"].numbers], [("a",), (("ringed", "a"),), (3, 4, 5)])
        self.assertEqual([other.names, other.claims, other["a"].numbers], [("a", "b"), (), (2, 3, 4)])

    def test_what_was_told_stays_as_it_is(self):
        book = Book()
        book["a"] = RING
        book.claim(("ringed", "a"))
        names, claims, standing = book.names, book.claims, book["a"]
        book["b"] = PATH
        book.lift(0)
        book["a"] = PATH
        self.assertEqual([names, claims, standing.numbers], [("a",), (("ringed", "a"),), (3, 4, 5)])

    def test_a_book_is_true_just_with_names(self):
        book = Book()
        self.assertIs(bool(book), False)
        book["a"] = RING
        self.assertIs(bool(book), True)
        book.drop("a")
        self.assertIs(bool(book), False)
        self.assertEqual(book.changes, 2)


if __name__ == "__main__":
    unittest.main()
