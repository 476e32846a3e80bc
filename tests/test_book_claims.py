"""Claims of a book: their forms, and that all of them hold after each change [14]."""

import random
import unittest
from unittest.mock import ANY

from arrowtrios.books import Book
from arrowtrios.errors import Broken, InvalidClaim, InvalidIndex, UnknownName
from arrowtrios.standings import Standing, turned
from tests.books import PlainBook, named, plainly_holds, seen
from tests.plain import GREATEST, MOST_TIMES, NO_INTEGERS, loop
from tests.test_books import NO_NAMES, BookTest, caught_error
from tests.walks import all_numbers

RING, PATH, UP = Standing(3, 4, 5), Standing(2, 3, 4), Standing(-3, -4, -7)

RIGHT = [
    ("kind", "a", "b"), ("alike", "a", "b"), ("ringed", "a"), ("turns", "a", "b", 1), ("turns", "a", "b", MOST_TIMES),
    ("turns", "a", "a", 0), ("never", "a", 2, (0, 0, 0)), ("never", "b", 12, (0, 0, 0)), ("kind", "b", "b"),
]


def book_of(**standings):
    """A book with these standings."""
    book = Book()
    for name, standing in standings.items():
        book[name] = standing
    return book


class FormsTest(BookTest):
    def setUp(self):
        self.book = book_of(a=RING, b=UP)

    def invalid(self, claim):
        self.refused(self.book, InvalidClaim, lambda: self.book.claim(claim), given=claim)

    def test_right_ones_are_told_as_they_were_passed(self):
        for many, claim in enumerate(RIGHT, 1):
            self.assertIsNone(self.book.claim(claim) if many % 2 else self.book.claim(claim=claim))
            self.assertEqual(self.book.claims, tuple(RIGHT[:many]))
            self.assertEqual(self.book.changes, 2 + many)
            self.assertIs(self.book.claims[-1], claim)

    def test_what_is_no_tuple(self):
        for value in (*NO_INTEGERS, 0, 3, "kind", "kind a b", {"kind": ("a", "b")}, self.book, RING):
            self.invalid(value)
        for claim in RIGHT:
            self.invalid(list(claim))
            self.invalid((claim,))
            self.invalid("".join(map(str, claim)))

    def test_one_element_more_or_less(self):
        for claim in RIGHT:
            for at in range(len(claim)):
                self.invalid(claim[:at])
            for more in (0, "a", "b", None, (), (0, 0, 0), 1):
                self.invalid((*claim, more))
                self.invalid((more, *claim))
        self.invalid(())

    def test_another_word(self):
        words = ("", "Kind", "kinds", "kind ", "KIND", "freed", "parted", "steps", "set", "drop", "claim", "lift", "a",
                 None,
                 0, True, b"kind", ("kind",), ["kind"], {"kind": 1}, {"kind"}, object(), str, ANY)
        for claim in RIGHT:
            for word in words:
                self.invalid((word, *claim[1:]))
        for claim, word in [(("kind", "a", "b"), "turns"), (("kind", "a", "b"), "ringed"), (("ringed", "a"), "kind"),
                            (("turns", "a", "b", 1), "never"), (("turns", "a", "b", 1), "kind"),
                            (("never", "a", 2, (0, 0, 0)), "turns")]:
            self.invalid((word, *claim[1:]))

    def test_another_n(self):
        for value in (-1, -2, MOST_TIMES + 1, 10 ** 350, *NO_INTEGERS, (0, 0, 0), "1", "a"):
            self.invalid(("turns", "a", "b", value))
        self.assertIsNone(self.book.claim(("turns", "a", "b", MOST_TIMES)))

    def test_another_m(self):
        for value in (-2, -1, 0, 1, 13, 14, 24, 10 ** 300, *NO_INTEGERS, (2,), "2"):
            self.invalid(("never", "a", value, (0, 0, 0)))
            self.invalid(("never", "a", value, None))
        for value in range(2, 13):
            self.assertIsNone(self.book.claim(("never", "a", value, (0, 0, 0))))

    def test_other_remainders(self):
        for number in (2, 3, 12):
            for value in (*NO_INTEGERS, 0, "000", (), (0,), (0, 0), (0, 0, 0, 0), [0, 0, 0], ((0, 0, 0),), {0: 0}):
                self.invalid(("never", "a", number, value))
            for at in range(3):
                for wrong in (-1, number, number + 1, 10 ** 20, *NO_INTEGERS):
                    rests = [0, 0, 0]
                    rests[at] = wrong
                    self.invalid(("never", "a", number, tuple(rests)))

    def test_invalid_ahead_of_unknown_names(self):
        for names in (("x", "y"), (None, None), (1, ["a"])):
            self.invalid(("kind", *names, names))
            self.invalid(("turns", *names, -1))
            self.invalid(("turns", *names, True))
            self.invalid(("never", names[0], 13, (0, 0, 0)))
            self.invalid(("never", names[0], 2, (0, 0, 2)))
            self.invalid(("never", names[0], 2, (0, 0, False)))

    def test_unknown_names(self):
        for value in (*NO_NAMES, "c", "aa", "ringed", RING, self.book):
            for claim, given in [
                (("kind", value, "b"), value), (("kind", "a", value), value), (("alike", value, "x"), value),
                (("alike", "x", value), "x"), (("ringed", value), value), (("turns", value, None, 0), value),
                (("turns", "b", value, MOST_TIMES), value), (("never", value, 12, (11, 11, 11)), value),
                (("kind", "x", value), "x"),
            ]:
                self.refused(self.book, UnknownName, lambda: self.book.claim(claim), given=given)

    def test_lift(self):
        for claim in RIGHT[:4]:
            self.book.claim(claim)
        for value in (-1, -4, 4, 5, 10 ** 300, *NO_INTEGERS, "0", (0,), RIGHT[0], "a"):
            self.refused(self.book, InvalidIndex, lambda: self.book.lift(value), given=value)
        self.assertIsNone(self.book.lift(1))
        self.assertEqual(self.book.claims, (RIGHT[0], RIGHT[2], RIGHT[3]))
        self.assertIsNone(self.book.lift(index=2))
        self.assertIsNone(self.book.lift(0))
        self.assertIsNone(self.book.lift(0))
        self.assertEqual([self.book.claims, self.book.changes], [(), 10])
        for value in (0, -1, True, None):
            self.refused(self.book, InvalidIndex, lambda: self.book.lift(value), given=value)


class HoldsTest(BookTest):
    def broken(self, book, index, call):
        self.refused(book, Broken, call, index=index)

    def test_the_first_claim_that_does_not_hold(self):
        book = book_of(a=RING, b=UP, c=PATH)
        for claim in [("ringed", "b"), ("kind", "a", "b"), ("alike", "a", "b"), ("turns", "a", "b", 1),
                      ("never", "a", 2, (0, 0, 0))]:
            book.claim(claim)
        self.broken(book, 5, lambda: book.claim(("turns", "b", "a", 0)))
        self.broken(book, 5, lambda: book.claim(("ringed", "c")))
        self.broken(book, 5, lambda: book.claim(("kind", "a", "c")))
        self.broken(book, 5, lambda: book.claim(("alike", "c", "a")))
        self.broken(book, 5, lambda: book.claim(("never", "a", 2, (1, 0, 1))))
        # "a" stands in the claims 1 to 4 alone, and each of these breaks by itself.
        self.broken(book, 1, lambda: book.__setitem__("a", PATH))
        self.broken(book, 0, lambda: book.__setitem__("b", PATH))
        self.broken(book, 3, lambda: book.__setitem__("a", Standing(*loop((3, 4, 5), "c"))))
        self.broken(book, 1, lambda: book.__setitem__("a", Standing(4, 5, 3)))
        for index in (1, 1):
            book.lift(index)
        self.broken(book, 1, lambda: book.__setitem__("a", Standing(4, 5, 3)))
        book.lift(1)
        book["a"] = Standing(4, 5, 3)
        self.broken(book, 1, lambda: book.__setitem__("a", Standing(2, 2, 2)))
        self.assertEqual(book.claims, (("ringed", "b"), ("never", "a", 2, (0, 0, 0))))

    def test_all_claims_about_small_standings(self):
        draw = random.Random(71)
        small = list(all_numbers(3))
        held = {True: 0, False: 0}
        for _ in range(1500):
            one = draw.choice(small)
            other = draw.choice([draw.choice(small), loop(one, "".join(draw.choice("abc") for _ in range(3))),
                                 named(one, draw.choice(["acb", "bca", "cba"])), one])
            if max(map(abs, other)) > 40:
                continue
            number = draw.randint(2, 12)
            claim = draw.choice([
                ("kind", "a", "b"), ("alike", "a", "b"), ("ringed", "a"), ("turns", "a", "b", draw.randint(0, 4)),
                ("never", "a", number, tuple(draw.randrange(number) for _ in range(3))),
            ])
            expected = plainly_holds(claim, {"a": one, "b": other})
            held[expected] += 1
            book = book_of(a=Standing(*one), b=Standing(*other))
            if expected:
                self.assertIsNone(book.claim(claim))
                self.assertEqual(book.claims, (claim,))
            else:
                self.broken(book, 0, lambda: book.claim(claim))
        self.assertGreater(min(held.values()), 300)

    def test_drawn_changes_against_a_plain_book(self):
        draw = random.Random(72)
        outcomes = {}
        for _ in range(60):
            book, plain = Book(), PlainBook()
            kinds = [draw.choice([(3, 4, 5), (2, 2, 2), (2, 3, 4), (1, 1, 0), (3, 3, 6), (0, 2, -1)]) for _ in range(2)]
            for _ in range(40):
                deed = self.drawn(draw, kinds)
                errors = [caught_error(lambda: self.do(book, deed)), caught_error(lambda: self.do_plainly(plain, deed))]
                self.assertIs(errors[0].__class__, errors[1].__class__)
                if errors[0] is not None:
                    self.assertEqual(vars(errors[0]), vars(errors[1]))
                self.assertEqual(seen(book), plain.seen())
                outcome = (deed[0], errors[0].__class__.__name__)
                outcomes[outcome] = outcomes.get(outcome, 0) + 1
        for outcome in [("set", "NoneType"), ("set", "Broken"), ("drop", "NoneType"), ("drop", "InUse"),
                        ("drop", "UnknownName"),
                        ("claim", "NoneType"), ("claim", "Broken"), ("claim", "UnknownName"), ("lift", "NoneType"),
                        ("lift", "InvalidIndex"), ("undo", "NoneType"), ("undo", "NothingToUndo")]:
            self.assertGreater(outcomes.get(outcome, 0), 3, outcome)

    def drawn(self, draw, kinds):
        """Some deed, about standings near these."""
        word = draw.choice(["set", "set", "set", "drop", "claim", "claim", "claim", "lift", "undo"])
        name, other = draw.choice("abcd"), draw.choice("abcd")
        if word == "set":
            numbers = loop(draw.choice(kinds), draw.choice(["", "a", "b", "c", "ab", "bc"]))
            return (word, name, named(numbers, draw.choice(["abc", "abc", "abc", "cab", "bac"])))
        if word == "claim":
            number = draw.randint(2, 4)
            return (word, draw.choice([
                ("kind", name, other), ("alike", name, other), ("ringed", name),
                ("turns", name, other, draw.randint(0, 5)),
                ("never", name, number, tuple(draw.randrange(number) for _ in range(3)))]))
        return (word, name) if word == "drop" else (word, draw.randint(-1, 4)) if word == "lift" else (word,)

    def do(self, book, deed):
        if deed[0] == "set":
            book[deed[1]] = Standing(*deed[2])
        else:
            self.assertIsNone(getattr(book, deed[0])(*deed[1:]))

    def do_plainly(self, plain, deed):
        getattr(plain, {"set": "put"}.get(deed[0], deed[0]))(*deed[1:])


class GreatTest(BookTest):
    """Rings with a tie of two arrows, one led from the other one by as many turns as a great number."""

    def test_just_the_fewest_turns_and_one_less(self):
        for many in (10 ** 60, 10 ** 60 + 1, 10 ** 299 + 7, 7 * 10 ** 100):
            for tie, word in [((2, 3, 4), "ab"), ((4, 2, 3), "bc"), ((3, 4, 2), "ca")]:
                one = Standing(*tie)
                other = turned(one, ((word, many // 2), (word[0], many % 2)))
                book = book_of(one=one, other=other)
                for names in (("one", "other"), ("other", "one")):
                    self.assertIsNone(book.claim(("turns", *names, many)))
                    self.assertIsNone(book.claim(("turns", *names, many + 1)))
                    self.assertIsNone(book.claim(("turns", *names, MOST_TIMES)))
                    for fewer in (many - 1, many - 2, 0):
                        index = len(book.claims)
                        self.refused(book, Broken, lambda: book.claim(("turns", *names, fewer)), index=index)
                self.assertIsNone(book.claim(("kind", "one", "other")))
                self.refused(book, Broken, lambda: book.claim(("ringed", "other")), index=7)

    def test_a_step_further_breaks_it(self):
        many = 10 ** 60
        one = Standing(2, 3, 4)
        book = book_of(one=one, other=turned(one, (("ab", many),)))
        book.claim(("kind", "one", "other"))
        book.claim(("turns", "one", "other", 2 * many))
        self.refused(book, Broken, lambda: book.__setitem__("other", turned(one, (("ab", many), ("a", 1)))), index=1)
        self.refused(book, Broken, lambda: book.__setitem__("one", turned(one, (("b", 1),))), index=1)
        self.refused(book, Broken, lambda: book.__setitem__("other", Standing(2, 2, 2)), index=0)
        book["other"] = turned(one, (("ab", many - 1), ("a", 1)))
        book["one"] = turned(one, (("a", 1),))
        book.lift(1)
        book.claim(("turns", "one", "other", 2 * many - 2))
        self.refused(book, Broken, lambda: book.claim(("turns", "one", "other", 2 * many - 3)), index=2)

    def test_all_words_about_great_standings(self):
        p, q = 10 ** 299, GREATEST
        book = book_of(ring=Standing(p, q, q), other=Standing(-q, -q, -p), free=Standing(p, q, -q),
                       up=Standing(2, q - 1, q),
                       both=Standing(2, q, q), back=Standing(-2, -q, -q))
        for claim in [("ringed", "ring"), ("alike", "ring", "other"), ("kind", "both", "back"), ("ringed", "both"),
                      ("turns", "both", "back", 1), ("never", "ring", 10, (1, 0, 0)), ("never", "up", 2, (1, 1, 1))]:
            self.assertIsNone(book.claim(claim))
        for claim in [("kind", "ring", "other"), ("ringed", "free"), ("ringed", "up"), ("alike", "ring", "free"),
                      ("turns", "both", "back", 0), ("turns", "ring", "other", MOST_TIMES),
                      ("never", "ring", 10, (0, 0, 0))]:
            self.refused(book, Broken, lambda: book.claim(claim), index=7)


if __name__ == "__main__":
    unittest.main()
