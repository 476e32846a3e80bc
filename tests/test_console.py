"""The console: each form of a line, its answer word by word, and what is no line."""

import itertools
import random
import unittest

from arrowtrios.books import Book
from arrowtrios.console import Console
from arrowtrios.errors import (
    Broken, InUse, InvalidLine, NothingToUndo, TooGreat, UnknownName,
)
from arrowtrios.kinds import least
from arrowtrios.roads import steps
from arrowtrios.standings import Standing, turned
from tests.books import seen, undone
from tests.plain import GREATEST, MOST_TIMES, NO_INTEGERS, loop
from tests.test_books import caught_error

BEGUN = ["r = 3 4 5", "s = r ba 1", "p = 2 -3 0", "s kind r", "drop p", "undo"]

# Right lines for a console with the names r, s and p, and what they answer.
RIGHT = [
    ("q = 0 0 0", "0 0 0"), ("r = 3 4 5", "3 4 5"), ("x = -1 2 -3", "-1 2 -3"), ("q = r b 1", "-3 -4 -7"),
    ("s = s ab 0", "3 17 7"),
    ("drop p", "ok"), ("undo", "ok"), ("r kind s", "ok"), ("s alike r", "ok"), ("r ringed", "ok"),
    ("r turns s 2", "ok"),
    ("r never 2 0 0 0", "ok"), ("r least", "ring 3 4 5"), ("p least", "free -2 -3 0"), ("r steps s", "2"),
    ("r steps p", "none"),
    ("r steps r", "0"),
]


def console_of(*lines):
    """A console that has executed these lines."""
    console = Console()
    for line in lines:
        console.say(line)
    return console


class ConsoleTest(unittest.TestCase):
    """What the other tests ask."""

    def refused(self, console, error_class, line, **attributes):
        """Ask for an error with these attributes, and for a book in which nothing has changed."""
        before = seen(console.book)
        error = caught_error(lambda: console.say(line))
        self.assertIs(error.__class__, error_class, (line, error))
        self.assertEqual(vars(error), attributes)
        self.assertEqual(seen(console.book), before)


class LinesTest(ConsoleTest):
    def test_a_new_console(self):
        console = Console()
        self.assertIsInstance(console.book, Book)
        self.assertIs(console.book, console.book)
        self.assertEqual(seen(console.book), ({}, (), 0, 0, False))
        self.assertIsNot(console.book, Console().book)

    def test_every_form_and_its_answer(self):
        for line, answer in RIGHT:
            for call in (lambda console: console.say(line), lambda console: console.say(line=line)):
                told = call(console_of(*BEGUN))
                self.assertEqual(told, answer, line)
                self.assertIs(type(told), str)

    def test_numbers_are_set(self):
        console = Console()
        for numbers in [(3, 4, 5), (0, 0, 0), (-1, 10, -100), (GREATEST, -GREATEST, GREATEST - 1)]:
            line = "a = " + " ".join(map(str, numbers))
            self.assertEqual(console.say(line), line[4:])
            self.assertEqual(console.book["a"].numbers, numbers)
        self.assertEqual(console.book.changes, 4)

    def test_led_ones_are_set(self):
        console = console_of("r = 3 4 5")
        numbers = (3, 4, 5)
        for word, times in [("b", 1), ("ba", 2), ("abcabcabcabc", 0), ("cab", 1), ("a", 10 ** 310),
                            ("aa", 10 ** 310 - 1)]:
            numbers = loop(numbers, word, times if times < 9 else times % 2)
            told = console.say(f"r = r {word} {times}")
            self.assertEqual(told, " ".join(map(str, numbers)))
            self.assertEqual(console.book["r"].numbers, numbers)
        self.assertEqual(console.say("new = r b 0"), told)
        self.assertEqual(console.say("r = new b 1"), " ".join(map(str, loop(numbers, "b"))))
        self.assertEqual(console.book.names, ("new", "r"))

    def test_claims_are_made(self):
        console = console_of("r = 3 4 5", "s = -3 -4 -7")
        claims = []
        for line, claim in [
            ("r kind s", ("kind", "r", "s")), ("s alike r", ("alike", "s", "r")), ("s ringed", ("ringed", "s")),
            ("r turns s 1", ("turns", "r", "s", 1)), (f"s turns r {MOST_TIMES}", ("turns", "s", "r", MOST_TIMES)),
            ("r never 2 0 0 0", ("never", "r", 2, (0, 0, 0))), ("s never 12 2 10 8", ("never", "s", 12, (2, 10, 8))),
            ("r turns r 0", ("turns", "r", "r", 0)),
        ]:
            self.assertEqual(console.say(line), "ok")
            claims.append(claim)
            self.assertEqual(console.book.claims, tuple(claims))
        self.assertEqual(console.book.changes, 10)

    def test_least_and_steps(self):
        console = console_of("r = 3 4 5", "s = -3 -4 -7", "p = 2 3 4", "z = 0 0 0", "m = -2 -6 -6")
        for name, answer in [("r", "ring 3 4 5"), ("s", "ring 3 4 5"), ("p", "free -2 -1 0"), ("z", "free 0 0 0"),
                             ("m", "ring -2 -6 -6")]:
            self.assertEqual(console.say(f"{name} least"), answer)
        for one, other, answer in [("r", "s", "1"), ("s", "r", "1"), ("r", "p", "none"), ("z", "z", "0"),
                                   ("m", "m", "0")]:
            self.assertEqual(console.say(f"{one} steps {other}"), answer)
        self.assertEqual(console.book.changes, 5)

    def test_the_document(self):
        console = Console()
        lines = ["r = 3 4 5", "s = r ba 1", "s steps r", "s least", "s kind r", "p = 2 -3 0", "p least", "p steps r"]
        self.assertEqual([console.say(line) for line in lines],
                         ["3 4 5", "3 17 7", "2", "ring 3 4 5", "ok", "2 -3 0", "free -2 -3 0", "none"])


class NamesTest(ConsoleTest):
    WORDS = ["drop", "undo", "kind", "alike", "ringed", "turns", "never", "least", "steps", "ring", "free", "ok",
             "none", "a", "abc"]

    def test_names_that_are_words_of_lines(self):
        for one, other in itertools.product(self.WORDS, repeat=2):
            console = console_of(f"{one} = 3 4 5", f"{other} = {one} b 1")
            numbers = console.book[other].numbers
            self.assertEqual(numbers, (-3, -4, -7))
            fewest = 0 if one == other else 1
            self.assertEqual(console.say(f"{one} steps {other}"), str(fewest))
            for line, claim in [(f"{one} kind {other}", ("kind", one, other)),
                                (f"{one} alike {other}", ("alike", one, other)),
                                (f"{one} turns {other} {fewest}", ("turns", one, other, fewest)),
                                (f"{one} never 2 0 0 0", ("never", one, 2, (0, 0, 0)))]:
                self.assertEqual(console.say(line), "ok")
                self.assertEqual(console.book.claims[-1], claim)

    def test_two_words_that_begin_with_drop(self):
        for name in self.WORDS:
            console = console_of("drop = 3 4 5", f"{name} = 3 4 5")
            self.assertEqual(console.say(f"drop {name}"), "ok")
            self.assertEqual(console.book.names, () if name == "drop" else ("drop",))
            self.refused(console, UnknownName, f"drop {name}", given=name)
            self.assertEqual(console.book.claims, ())
        console = console_of("drop = 3 4 5")
        self.refused(console, UnknownName, "drop ringed", given="ringed")
        self.refused(console, UnknownName, "drop least", given="least")
        self.assertEqual(console.say("drop kind drop"), "ok")
        self.refused(console, InUse, "drop drop", index=0)

    def test_one_word(self):
        console = console_of("undo = 3 4 5")
        self.assertEqual(console.say("undo"), "ok")
        self.assertEqual(console.book.names, ())
        for line in ("drop", "least", "r", "ringed", "ok"):
            self.refused(console, InvalidLine, line, given=line)

    def test_the_longest_names(self):
        console = console_of("abcdefgh = 1 2 3")
        self.assertEqual(console.say("z = abcdefgh c 0"), "1 2 3")
        self.assertEqual(console.say("abcdefgh kind z"), "ok")
        for line in ("abcdefghi = 1 2 3", "abcdefghi = z a 1", "z = abcdefghi a 1", "drop abcdefghi", "abcdefghi least",
                     "abcdefghi kind z", "z steps abcdefghi", "abcdefghi never 2 0 0 0"):
            self.refused(console, InvalidLine, line, given=line)


class InvalidTest(ConsoleTest):
    def setUp(self):
        self.console = console_of(*BEGUN)

    def invalid(self, line):
        self.refused(self.console, InvalidLine, line, given=line)

    def test_values_that_are_no_strings(self):
        for value in (*NO_INTEGERS, 0, 5, b"undo", ("undo",), ["undo"], {"undo": 1}, object(), self.console,
                      Standing(3, 4, 5)):
            if not isinstance(value, str):
                error = caught_error(lambda: self.console.say(value))
                self.assertIs(error.__class__, InvalidLine)
                self.assertIs(error.given, value)

    def test_spaces_and_words_more_less_or_otherwise(self):
        for line, _ in RIGHT:
            words = line.split(" ")
            for other in (line + " ", " " + line, line.replace(" ", "  ", 1), line + "\n", "\n" + line, line + " \n",
                          line.replace(" ", "\n", 1),
                          line.upper(), line + ";", line + ".", line.replace(" ", "_"), line + "x" * 2 + " y",
                          line + " ok ok ok ok ok ok"):
                if other != line:
                    self.invalid(other)
            for at in range(len(words)):
                other = words[at].upper() if words[at].islower() else words[at] + "x"
                self.invalid(" ".join(words[:at] + [other] + words[at + 1:]))
                self.invalid(" ".join(words[:at] + [words[at] + "-"] + words[at + 1:]))
                self.invalid(" ".join(words[:at] + [""] + words[at + 1:]))
        for line in ("", " ", "\n", "  ", "=", "r", "r s", "r =", "r = 3", "r = 3 4", "r = 3 4 5 6", "r 3 4 5",
                     "= 3 4 5", "r == 3 4 5", "r : 3 4 5",
                     "3 = 3 4 5", "r = s", "r = s b", "r = s b 1 1", "r = b 1", "r kind", "kind r s", "r kind s s",
                     "r is s", "drop", "drop r s",
                     "drop 3", "drop R", "drop r-s", "undo r", "undo undo", "Undo", "undo ", "r ringed s", "ringed r",
                     "r turns s", "r turns 3",
                     "turns r s 3", "r turns s 3 4", "r never", "r never 2", "r never 2 0 0", "r never 2 0 0 0 0",
                     "never r 2 0 0 0",
                     "r never 2 (0, 0, 0)", "r least s", "least r", "r steps", "r steps s s", "steps r s", "lift 0",
                     "r freed", "help", "r ring"):
            self.invalid(line)

    def test_numbers_not_as_str_writes_them(self):
        for number in ("", "-", "+1", "-0", "+0", "00", "01", "-01", "1_0", "1.0", "1e3", "0x1", "--1", "- 1", "1-",
                       "one", "True", "None", "a",
                       "0b1", "007", "1,", "(1)", "\t1", "1\t"):
            for at in range(3):
                numbers = ["1", "2", "3"]
                numbers[at] = number
                self.invalid("r = " + " ".join(numbers))
            self.invalid(f"r = s b {number}")
            self.invalid(f"r turns s {number}")
            self.invalid(f"r never {number} 0 0 0")
            for at in range(3):
                rests = ["0", "0", "0"]
                rests[at] = number
                self.invalid("r never 2 " + " ".join(rests))

    def test_numbers_beyond_their_bounds(self):
        for number in (GREATEST + 1, -GREATEST - 1, 10 * GREATEST, MOST_TIMES, 10 ** 399, -10 ** 399):
            for at in range(3):
                numbers = ["1", "2", "3"]
                numbers[at] = str(number)
                self.invalid("r = " + " ".join(numbers))
        for number in (-1, -2, MOST_TIMES + 1, 10 ** 311, -MOST_TIMES):
            self.invalid(f"r = s b {number}")
            self.invalid(f"r turns s {number}")
        for number in (-2, -1, 0, 1, 13, 14, 100, MOST_TIMES, 10 ** 399):
            self.invalid(f"r never {number} 0 0 0")
        for number in range(2, 13):
            for wrong in (-1, number, number + 1, 10 ** 20):
                for at in range(3):
                    rests = ["0", "0", "0"]
                    rests[at] = str(wrong)
                    self.invalid(f"s never {number} " + " ".join(rests))

    def test_numbers_at_their_bounds(self):
        self.assertEqual(self.console.say(f"a = {GREATEST} {-GREATEST} 0"), f"{GREATEST} {-GREATEST} 0")
        self.assertEqual(self.console.say(f"b = r aa {MOST_TIMES}"), "3 4 5")
        self.assertEqual(self.console.say(f"r turns s {MOST_TIMES}"), "ok")
        self.console.say("z = 0 0 0")
        for number in range(2, 13):
            self.assertEqual(self.console.say(f"z never {number} 0 {number - 1} 0"), "ok")

    def test_names_and_words_that_are_none(self):
        for name in ("R", "r1", "r_s", "r-s", "1", "abcdefghi", "-", "=", "r,", "'r'", "rS"):
            for line in (f"{name} = 1 2 3", f"{name} = r b 1", f"r = {name} b 1", f"drop {name}", f"{name} kind r",
                         f"r kind {name}",
                         f"{name} alike r", f"r alike {name}", f"{name} ringed", f"{name} turns r 1",
                         f"r turns {name} 1",
                         f"{name} never 2 0 0 0", f"{name} least", f"{name} steps r", f"r steps {name}"):
                self.invalid(line)
        for word in ("d", "abd", "A", "abcabcabcabca", "b1", "ab-", "1", "ab,ba"):
            self.invalid(f"r = s {word} 1")
        self.assertEqual(self.console.say("r = s abcabcabcabc 0"), "3 17 7")

    def test_other_signs(self):
        for line in ("r = 3 4 5\t", "r\t= 3 4 5", "r = 3 4 5\r", "r = 3 4 \u00b2", "r = 3 4 \u0665", "\u00e4 = 3 4 5",
                     "r\u00a0least", "r = 3 4 \uff15",
                     "r lea\u017ft", "\u0430 least", "drop \u0131", "r = s \u0430 1", "undo\x00", "r = 3 4 5\u2028",
                     "\ufeffundo"):
            self.invalid(line)

    def test_a_long_line(self):
        for line in ("r " * 900, "r" * 2000, "r = " + "9" * 1900 + " 1 2", " " * 2000, "r = 1 2 " + "0" * 1900,
                     "r turns s " + "1" * 1900):
            self.invalid(line)


class ErrorsTest(ConsoleTest):
    def setUp(self):
        self.console = console_of(*BEGUN)

    def test_the_first_unknown_name_from_the_left(self):
        for line, given in [
            ("x = y b 1", "y"), ("r = y b 1", "y"), ("drop x", "x"), ("x kind y", "x"), ("r kind y", "y"),
            ("x kind r", "x"),
            ("x alike y", "x"), ("r alike x", "x"), ("x ringed", "x"), ("x turns y 0", "x"), ("r turns y 0", "y"),
            ("x turns r 0", "x"),
            ("x never 2 0 0 0", "x"), ("x least", "x"), ("x steps y", "x"), ("r steps y", "y"), ("y steps r", "y"),
        ]:
            self.refused(self.console, UnknownName, line, given=given)

    def test_unknown_names_ahead_of_the_errors_of_what_is_done(self):
        self.refused(self.console, UnknownName, f"x = y abc {MOST_TIMES}", given="y")
        self.refused(self.console, UnknownName, "r turns x 0", given="x")
        self.refused(self.console, UnknownName, "x kind p", given="x")

    def test_the_errors_of_what_is_done(self):
        self.refused(self.console, TooGreat, f"x = r abc {MOST_TIMES}", index=0)
        self.refused(self.console, TooGreat, f"r = r ab {10 ** 9}", index=0)
        self.refused(self.console, InUse, "drop r", index=0)
        self.refused(self.console, Broken, "r = 2 3 4", index=0)
        self.refused(self.console, Broken, "r = p b 1", index=0)
        self.refused(self.console, Broken, "r kind p", index=1)
        self.refused(self.console, Broken, "p ringed", index=1)
        self.refused(self.console, Broken, "r turns s 1", index=1)
        self.refused(self.console, Broken, "r alike p", index=1)
        self.refused(self.console, Broken, "r never 2 1 0 1", index=1)
        self.refused(Console(), NothingToUndo, "undo")

    def test_too_great_ahead_of_broken(self):
        self.refused(self.console, TooGreat, f"r = r abc {MOST_TIMES}", index=0)

    def test_what_raised_an_error_cannot_be_taken_back(self):
        before = seen(self.console.book)
        for line in ("drop r", "r = 2 3 4", "undo it", "x least", "r kind p"):
            self.assertIsNotNone(caught_error(lambda: self.console.say(line)))
        self.console.say("r least")
        self.console.say("r steps p")
        self.console.say("x = 1 1 1")
        self.console.say("undo")
        self.assertEqual(seen(self.console.book), before)


class SameAsABookTest(ConsoleTest):
    def test_drawn_lines_and_changes_of_a_book(self):
        draw = random.Random(95)
        outcomes = {}
        for _ in range(40):
            console, book = Console(), Book()
            for _ in range(40):
                line, change = self.drawn(draw, book)
                if draw.randrange(4) == 0 and not line.endswith(("least", "steps a", "steps b", "steps c")):
                    # The console's book by itself, without a line.
                    line = None
                    errors = [caught_error(lambda: change(console.book)), caught_error(lambda: change(book))]
                else:
                    errors = [caught_error(lambda: console.say(line)), caught_error(lambda: change(book))]
                self.assertIs(errors[0].__class__, errors[1].__class__, line)
                if errors[0] is not None:
                    self.assertEqual(vars(errors[0]), vars(errors[1]))
                self.assertEqual(seen(console.book), seen(book))
                outcomes[errors[0].__class__.__name__] = outcomes.get(errors[0].__class__.__name__, 0) + 1
            self.assertEqual(undone(console.book), undone(book))
        for name in ("NoneType", "Broken", "InUse", "UnknownName", "NothingToUndo"):
            self.assertGreater(outcomes.get(name, 0), 5, outcomes)

    def drawn(self, draw, book):
        """A line, and the change of a book that does the same."""
        one, other = draw.choice("abc"), draw.choice("abc")
        x, y, z = draw.choice([(3, 4, 5), (-3, -4, -7), (2, 3, 4), (0, 0, 0), (5, 3, 4)])
        word, times, many = draw.choice(["a", "bc", "cab"]), draw.randint(0, 2), draw.randint(0, 3)
        number = draw.randint(2, 5)
        rests = tuple(draw.randrange(number) for _ in range(3))
        r, s, t = rests
        return draw.choice([
            (f"{one} = {x} {y} {z}", lambda held: held.__setitem__(one, Standing(x, y, z))),
            (f"{one} = {x} {y} {z}", lambda held: held.__setitem__(one, Standing(x, y, z))),
            (f"{one} = {other} {word} {times}",
             lambda held: held.__setitem__(one, turned(held[other], ((word, times),)))),
            (f"drop {one}", lambda held: held.drop(one)), ("undo", lambda held: held.undo()),
            (f"{one} kind {other}", lambda held: held.claim(("kind", one, other))),
            (f"{one} alike {other}", lambda held: held.claim(("alike", one, other))),
            (f"{one} ringed", lambda held: held.claim(("ringed", one))),
            (f"{one} turns {other} {many}", lambda held: held.claim(("turns", one, other, many))),
            (f"{one} never {number} {r} {s} {t}", lambda held: held.claim(("never", one, number, rests))),
            (f"{one} least", lambda held: least(held[one])),
            (f"{one} steps {other}", lambda held: steps(held[one], held[other])),
        ])

    def test_a_trial_of_its_book_and_lifted_claims(self):
        console = console_of(*BEGUN)
        before = seen(console.book)
        with console.book.trial() as book:
            book.lift(0)
            self.assertEqual(console.say("drop r"), "ok")
            self.assertEqual(book.names, ("p", "s"))
        self.assertEqual(seen(console.book), before)
        console.book.lift(0)
        self.assertEqual(console.say("drop r"), "ok")
        self.assertEqual([console.say("undo"), console.say("undo")], ["ok", "ok"])
        self.assertEqual(seen(console.book), before)


class GreatTest(ConsoleTest):
    def test_lines_with_numbers_of_sixty_figures_and_more(self):
        many = 123456789 * 10 ** 52 + 7
        console = console_of("r = 2 3 4")
        answer = f"2 {2 * many + 3} {2 * many + 4}"
        self.assertEqual(console.say(f"s = r ab {many}"), answer)
        self.assertEqual(console.say(f"t = {answer}"), answer)
        self.assertEqual(console.say("r steps s"), str(2 * many))
        self.assertEqual(console.say("s steps t"), "0")
        self.assertEqual(console.say("s least"), "free -2 -1 0")
        self.assertEqual(console.say("s kind r"), "ok")
        self.assertEqual(console.say(f"s turns r {2 * many}"), "ok")
        self.refused(console, Broken, f"s turns r {2 * many - 1}", index=2)
        self.assertEqual(console.say(f"s = s ba {many - 1}"), "2 5 6")
        big = 10 ** 299
        self.assertEqual(console.say(f"u = {big} {big + 1} {-big}"), f"{big} {big + 1} {-big}")
        self.assertEqual(console.say("u least"), f"free {-big} {big + 1} {big}")
        self.assertEqual(console.say(f"v = {big} {big} {big}"), f"{big} {big} {big}")
        self.assertEqual(console.say("v least"), f"ring {big} {big} {big}")
        self.assertEqual(console.say("v never 10 1 0 0"), "ok")

    def test_up_to_the_greatest_size(self):
        half = (GREATEST - 4) // 2
        console = console_of("r = 2 3 4")
        self.assertEqual(console.say(f"s = r ab {half}"), f"2 {GREATEST - 1} {GREATEST}")
        self.refused(console, TooGreat, "s = s a 1", index=0)
        self.refused(console, TooGreat, f"s = r ab {half + 1}", index=0)
        self.assertEqual(console.say("r steps s"), str(2 * half))


if __name__ == "__main__":
    unittest.main()
