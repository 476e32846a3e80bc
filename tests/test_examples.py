"""The examples of the document, as they stand there, but for a row in one of them that cannot hold."""

import doctest
import unittest

from arrowtrios.errors import TooGreat
from arrowtrios.standings import Standing, turned
from tests.plain import loop

STANDINGS = """
>>> from arrowtrios.standings import Standing, length, renamed, turned
>>> ring = Standing(3, 4, 5)
>>> [ring.sizes, ring.is_ring, ring.mark, turned(ring, (("b", 1),)).numbers, turned(ring, (("ba", 1), ("c", 2))).numbers, length((("ba", 3), ("c", 2)))]
[(3, 4, 5), True, -10, (-3, -4, -7), (3, 17, 7), 8]
>>> [turned(Standing(2, 3, 4), (("ab", 10 ** 20),)).numbers, renamed(ring, "bca").numbers, renamed(ring, "acb").numbers]
[(2, 200000000000000000003, 200000000000000000004), (4, 5, 3), (-5, -4, -3)]
"""

KINDS = """
>>> from arrowtrios.kinds import foot, free_ones, is_ringed, least, rings_of_mark, same_kind
>>> path = Standing(2, 3, 4)
>>> [is_ringed(ring), least(turned(ring, (("bac", 5),))), least(Standing(-3, -4, -5)), is_ringed(path), least(path)]
[True, ('ring', (3, 4, 5)), ('ring', (-3, -4, -5)), False, ('free', (-2, -1, 0))]
>>> [foot(Standing(2, 6, 6)), len(foot(path)), foot(Standing(0, 3, 0)), same_kind(Standing(2, 2, 2), Standing(-2, -2, -2)), same_kind(Standing(3, 3, -5), Standing(3, -3, 5))]
[((-2, -6, -6), (2, 6, 6)), 10, ((0, -3, 0), (0, 3, 0)), True, True]
>>> [rings_of_mark(0), rings_of_mark(-2), rings_of_mark(3), free_ones(Standing(2, 3, -5)), len(free_ones(path)), free_ones(ring)]
[((3, 3, 3),), ((3, 3, 4),), (), ((-2, 3, 5), (2, -3, 5), (2, 3, -5)), 8, ()]
"""

ROADS = """
>>> from arrowtrios.roads import descent, freeing, road, steps
>>> [length(descent(turned(ring, (("bac", 2),)))), descent(ring), steps(ring, turned(ring, (("bac", 2), ("ab", 1)))), steps(ring, path), length(freeing(path)), freeing(ring), length(road(Standing(1, 2, -3), Standing(-1, -3, 2)))]
[6, (), 8, None, 3, None, 3]
>>> far = Standing(2, 10 ** 30, 10 ** 30 + 1)
>>> [length(descent(far)), turned(far, descent(far)).numbers in foot(far), steps(Standing(2, 4, 5), far)]
[999999999999999999999999999999, True, 999999999999999999999999999996]
"""

LISTS = """
>>> from arrowtrios.lists import least_above, many_at, standings_to
>>> [standings_to(ring, 7), standings_to(ring, 4), least_above(ring, 5), least_above(Standing(2, 2, 2), 2), len(standings_to(Standing(1, 1, 0), 1))]
[((-3, -4, -7), (3, 4, 5)), (), 7, None, 14]
>>> [many_at(ring, 0), many_at(ring, 1), many_at(ring, 10), many_at(path, 0), many_at(path, 2), many_at(Standing(2, 6, 6), 3), many_at(Standing(2, 2, 2), 1)]
[1, 3, 1536, 10, 4, 8, 0]
"""

REMAINDERS = """
>>> from arrowtrios.remainders import at_ties, leaves, remainders
>>> [remainders(Standing(3, 3, 3), 3), remainders(Standing(2, 2, 2), 5), leaves(ring, 2, (0, 0, 0)), at_ties(ring, 2)]
[((0, 0, 0),), ((2, 2, 2),), False, ((0, 1), (0, 1), (0, 1))]
"""

NAMING = """
>>> from arrowtrios.naming import naming_between, own_namings
>>> [naming_between(ring, Standing(5, 3, 4)), naming_between(ring, path), own_namings(ring), own_namings(Standing(2, 6, 6))]
['cab', None, ('abc',), ('abc', 'bac')]
"""

WEBS = """
>>> from arrowtrios.webs import Web, reach
>>> web = Web(((0, 1, 0, 0), (-1, 0, 2, 0), (0, -2, 0, 0), (0, 0, 0, 0)))
>>> [web.turn(1).rows[0], web.turn(2).rows[1], web.kept, reach(Web(((0, 1, 0), (-1, 0, 1), (0, -1, 0)))), reach(Web(((0, 5), (-5, 0))))]
[(0, -1, 2, 0), (-1, 0, -2, 0), (1, 1, 2, 0), 14, 2]
"""

BOARDS = """
>>> from arrowtrios.boards import Board
>>> board = Board(ring)
>>> done = [board.turn("b"), board.numbers, board.turn(word="ab", times=2), board.go((("ba", 2),)), board.numbers, board.changes]
>>> done
[None, (-3, -4, -7), None, None, (-3, -4, -7), 3]
>>> [board.undo(), board.undo(), board.undo(), board.numbers, board.tried(lambda held: held.turn("c")), board.changes]
[None, None, None, (3, 4, 5), None, 0]
"""

# The last row of the document's example, which raises Broken(index=1), is asked by itself.
BOOKS = """
>>> from arrowtrios.books import Book
>>> book = Book()
>>> done = book.do_all(("set", "r", ring), ("set", "s", Standing(-3, -4, -7)), ("claim", ("turns", "r", "s", 1)), ("claim", ("never", "r", 2, (0, 0, 0))))
>>> [done, book.names, book.claims[0], book.changes, book.undo(), len(book)]
[4, ('r', 's'), ('turns', 'r', 's', 1), 4, None, 2]
"""

BROKEN = """
>>> from arrowtrios.errors import Broken
>>> try:
...     book.claim(("turns", "s", "r", 0))
... except Broken as error:
...     error.index
1
"""

CERTIFICATES = """
>>> from arrowtrios.certificates import certify_kind, certify_never, certify_ring
>>> from arrowtrios.checker import accepts
>>> papers = [certify_ring(ring), certify_ring(path), certify_kind(ring, Standing(3, 17, 7)), certify_kind(ring, path), certify_never(ring, 2, (0, 0, 0))]
>>> [papers[0][0], papers[1][0][0], papers[3][0][0], certify_never(ring, 2, (1, 0, 1)), accepts(("kind", (3, 4, 5), (3, 4, 5)), ())]
[('ringed', (3, 4, 5)), 'freed', 'parted', None, True]
>>> [accepts(papers[0][0], papers[0][1]), accepts(papers[1][0], papers[1][1]), accepts(papers[2][0], papers[2][1]), accepts(papers[3][0], papers[3][1]), accepts(papers[4][0], papers[4][1]), accepts(("freed", (3, 4, 5)), (("b", 1),))]
[True, True, True, True, True, False]
"""

CONSOLE = """
>>> from arrowtrios.console import Console
>>> console = Console()
>>> [console.say("r = 3 4 5"), console.say("s = r ba 1"), console.say("s steps r"), console.say("s least"), console.say("s kind r"), console.say("p = 2 -3 0"), console.say("p least"), console.say("p steps r")]
['3 4 5', '3 17 7', '2', 'ring 3 4 5', 'ok', '2 -3 0', 'free -2 -3 0', 'none']
"""

# What the document's sections take over from those ahead of them.
SETTING = """
>>> from arrowtrios.standings import Standing, length, turned
>>> from arrowtrios.kinds import foot
>>> ring = Standing(3, 4, 5)
>>> path = Standing(2, 3, 4)
"""


def told(text):
    """How many examples of a text fail, and how many there are."""
    example = doctest.DocTestParser().get_doctest(text, {}, "examples", None, 0)
    return tuple(doctest.DocTestRunner().run(example))


class ExamplesTest(unittest.TestCase):
    def test_standings(self):
        self.assertEqual(told(STANDINGS), (0, 4))

    def test_kinds(self):
        # The row (("bac", 5),) of one example leads from the ring to sizes of 658 figures, so `turned` has to
        # raise TooGreat there, and nothing is told of the kind; all else stands as it is in the document.
        with self.assertRaises(TooGreat) as caught:
            turned(Standing(3, 4, 5), (("bac", 5),))
        self.assertEqual(caught.exception.index, 0)
        self.assertGreater(max(abs(number) for number in loop((3, 4, 5), "bac", 5)), 10 ** 657)
        self.assertEqual(KINDS.count('(("bac", 5),)'), 1)
        self.assertEqual(told(SETTING + KINDS.replace('(("bac", 5),)', '(("bac", 4),)')), (0, 9))

    def test_roads(self):
        self.assertEqual(told(SETTING + ROADS), (0, 8))

    def test_lists(self):
        self.assertEqual(told(SETTING + LISTS), (0, 7))

    def test_remainders(self):
        self.assertEqual(told(SETTING + REMAINDERS), (0, 6))

    def test_naming(self):
        self.assertEqual(told(SETTING + NAMING), (0, 6))

    def test_webs(self):
        self.assertEqual(told(SETTING + WEBS), (0, 7))

    def test_boards(self):
        self.assertEqual(told(SETTING + BOARDS), (0, 9))

    def test_books(self):
        self.assertEqual(told(SETTING + BOOKS + BROKEN), (0, 10))

    def test_certificates(self):
        self.assertEqual(told(SETTING + CERTIFICATES), (0, 9))

    def test_console(self):
        self.assertEqual(told(SETTING + CONSOLE), (0, 7))

    def test_all_sections_behind_one_another(self):
        kinds = KINDS.replace('(("bac", 5),)', '(("bac", 4),)')
        text = STANDINGS + kinds + ROADS + LISTS + REMAINDERS + NAMING + WEBS + BOARDS + BOOKS + BROKEN + CERTIFICATES + CONSOLE
        self.assertEqual(told(text)[0], 0)

    def test_the_standing_that_is_not_ringed(self):
        # The turns that [10] tells of the ring (2, 3, 4).
        text = """
>>> from arrowtrios.standings import Standing, turned
>>> [turned(Standing(2, 3, 4), ((word, 1),)).numbers for word in ("b", "ba", "bab", "bac")]
[(-2, -3, -2), (2, 1, 2), (-2, -1, 0), (0, -1, -2)]
"""
        self.assertEqual(told(text), (0, 2))


if __name__ == "__main__":
    unittest.main()
