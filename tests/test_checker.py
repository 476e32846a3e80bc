"""`accepts`: right papers, papers with one thing otherwise, and claims that are none [15]."""

import itertools
import random
import unittest
from unittest.mock import ANY

from arrowtrios.certificates import certify_kind, certify_never, certify_ring
from arrowtrios.checker import accepts
from arrowtrios.roads import descent, freeing, road
from arrowtrios.standings import Standing, turned
from tests.papers import plainly_accepts, rows_otherwise, tables_otherwise
from tests.plain import GREATEST, MOST_TIMES, NO_INTEGERS, loop
from tests.walks import all_numbers, foot_by_walk, is_least_ring, left_in_kind

OPPOSITE = {"ringed": "freed", "freed": "ringed", "kind": "parted", "parted": "kind"}

SMALL = [(3, 4, 5), (3, 3, 3), (2, 2, 2), (2, 6, 6), (2, 3, 4), (3, 4, 6), (1, 1, 0), (0, 0, 0), (0, 3, 0), (1, 2, 3),
         (3, -4, 5),
         (-3, -4, -7), (3, 17, 7), (2, 2, 3), (3, 3, 8), (1, 5, -2)]


def papers_of(numbers, others):
    """Right papers for all words about some standings."""
    one = Standing(*numbers)
    yield certify_ring(one)
    for other in others:
        yield certify_kind(one, Standing(*other))
    for number in (2, 3, 4):
        left = left_in_kind(numbers, number)
        rests = [rests for rests in itertools.product(range(number), repeat=3) if rests not in left]
        for found in rests[:1] + rests[-1:]:
            yield certify_never(one, number, found)


class CheckerTest(unittest.TestCase):
    """What the other tests ask."""

    def check(self, claim, paper):
        """Ask for just what the plain checker says; return it."""
        expected = plainly_accepts(claim, paper)
        self.assertIs(accepts(claim, paper), expected, (claim, paper))
        return expected


class RightTest(CheckerTest):
    def test_papers_of_small_standings(self):
        many = 0
        for numbers in SMALL:
            for claim, paper in papers_of(numbers, SMALL):
                self.assertTrue(self.check(claim, paper))
                self.assertIs(accepts(paper=paper, claim=claim), True)
                many += 1
        self.assertGreater(many, 300)

    def test_papers_that_somebody_else_wrote(self):
        for claim, paper in [
            (("ringed", (3, 4, 5)), ()), (("ringed", (3, 4, 5)), (("bb", 7), ("a", 2))),
            (("ringed", (3, 4, 6)), (("b", 1),)),
            (("ringed", (-3, -4, -7)), (("bccaa", 1),)), (("ringed", (2, 5, 5)), (("abab", 3), ("b", 1))),
            (("freed", (2, 3, 4)), (("bab", 1),)), (("freed", (2, 3, 4)), (("b", 1), ("a", 1), ("c", 1))),
            (("freed", (1, 1, 0)), ()), (("freed", (3, -4, 5)), (("aa", 3),)), (("kind", (3, 4, 5), (3, 4, 5)), ()),
            (("kind", (3, 4, 5), (-3, -4, -7)), (("bab", 1), ("b", 1), ("a", 1))),
            (("parted", (3, 4, 5), (3, 4, 6)), ((), ())), (("parted", (3, 4, 5), (3, 4, 6)), ((), (("b", 1),))),
            (("parted", (3, 4, 5), (2, 3, 4)), ((), (("b", 1), ("a", 1)))),
            (("parted", (3, 4, 5), (2, 3, 4)), ((), (("bab", 1),))), (("parted", (0, 1, 0), (0, 2, 0)), ((), ())),
        ]:
            self.assertTrue(self.check(claim, paper), (claim, paper))

    def test_papers_with_great_times(self):
        for claim, paper in [
            (("ringed", (2, 5, 5)), (("ab", 10 ** 200),)), (("freed", (3, -4, 5)), (("aa", MOST_TIMES),)),
            (("kind", (3, 4, 5), (-3, -4, -7)), (("b", 1), ("aacc", 10 ** 300))),
            (("kind", (2, 3, 4), (2, 2 * 10 ** 99 + 3, 2 * 10 ** 99 + 4)), (("ab", 10 ** 99),)),
            (("kind", (1, 1, 0), (1, 1, 0)), (("abc", 10 * 10 ** 300), ("cba", 10 ** 301))),
        ]:
            self.assertIs(accepts(claim, paper), True, (claim, paper))

    def test_a_hundred_more_are_let(self):
        claim, row = ("kind", (3, 4, 5), (3, 4, 5)), (("a", 2),) * 200
        self.assertIs(accepts(claim, row), True)
        self.assertIs(accepts(claim, row + (("a", 2),)), False)
        self.assertIs(accepts(claim, row + (("a", 0),)), False)
        self.assertIs(accepts(("ringed", (3, 4, 5)), row), True)
        self.assertIs(accepts(("ringed", (3, 4, 5)), row + (("a", 2),)), False)
        self.assertIs(accepts(("freed", (1, 1, 0)), row), True)
        self.assertIs(accepts(("freed", (1, 1, 0)), row * 2), False)
        for number in (0, 1):
            rows = [row, row]
            self.assertIs(accepts(("parted", (3, 4, 5), (2, 2, 2)), tuple(rows)), True)
            rows[number] = row + (("a", 2),)
            self.assertIs(accepts(("parted", (3, 4, 5), (2, 2, 2)), tuple(rows)), False)
        claim, (_, table) = certify_never(Standing(3, 4, 5), 2, (0, 0, 0))
        self.assertIs(accepts(claim, (row, table)), True)
        self.assertIs(accepts(claim, (row + (("a", 2),), table)), False)

    def test_words_and_times_at_their_bounds(self):
        claim = ("kind", (3, 4, 5), (3, 4, 5))
        for row, let in [((("abcabccbacba", 0),), True), ((("abccbaabccba", MOST_TIMES),), True),
                         ((("abccbaabccbaa", 1),), False), ((("aa", MOST_TIMES + 1),), False),
                         ((("a", MOST_TIMES),), True),
                         ((("a", MOST_TIMES - 1),), False), ((("abcabcabcabc", 0),), True),
                         ((("abcabcabcabca", 0),), False)]:
            self.assertIs(accepts(claim, row), let, row)


class OtherwiseTest(CheckerTest):
    def test_rows_with_one_thing_otherwise(self):
        outcomes = {True: 0, False: 0}
        for numbers in SMALL:
            for claim, paper in papers_of(numbers, SMALL):
                if claim[0] in ("ringed", "freed", "kind"):
                    for other in rows_otherwise(paper):
                        outcomes[self.check(claim, other)] += 1
        self.assertGreater(outcomes[False], 1000)
        self.assertGreater(outcomes[True], 200)

    def test_great_times_at_the_end(self):
        for numbers in SMALL:
            claim, row = certify_ring(Standing(*numbers))
            self.assertIs(accepts(claim, row + (("aa", MOST_TIMES),)), True)
            self.assertIs(accepts(claim, row + (("b", MOST_TIMES), ("cabbac", MOST_TIMES))), True)
            self.assertIs(accepts(claim, row + (("b", MOST_TIMES + 1),)), False)
            self.assertIs(accepts(claim, row + (("b", MOST_TIMES - 1),)), plainly_accepts(claim, row + (("b", 1),)))

    def test_pairs_of_rows_with_one_thing_otherwise(self):
        outcomes = {True: 0, False: 0}
        for one, other in [((3, 4, 5), (3, 17, 7)), ((3, 17, 7), (2, 3, 4)), ((2, 3, 4), (2, 2, 3)),
                           ((1, 1, 0), (2, 6, 6))]:
            if certify_kind(Standing(*one), Standing(*other))[0][0] == "kind":
                other = (other[1], other[2], other[0])
            claim, (first, second) = certify_kind(Standing(*one), Standing(*other))
            self.assertEqual(claim[0], "parted")
            for paper in (None, (), (first,), (first, second, ()), [first, second], (second,), first,
                          ((first, second),)):
                self.check(claim, paper)
            for row in list(rows_otherwise(first)) + list(rows_otherwise(second)):
                outcomes[self.check(claim, (row, second))] += 1
                outcomes[self.check(claim, (first, row))] += 1
        self.assertGreater(min(outcomes.values()), 50)

    def test_tables_with_one_thing_otherwise(self):
        outcomes = {True: 0, False: 0}
        draw = random.Random(81)
        for numbers in SMALL:
            for claim, (row, table) in [pair for pair in papers_of(numbers, []) if pair[0][0] == "never"]:
                for paper in (None, (), (row,), (table, row), (row, table, ()), [row, table], table, ((row, table),)):
                    self.check(claim, paper)
                others = list(tables_otherwise(table, claim[2], claim[3]))
                for other in others if len(others) < 60 else draw.sample(others, 60):
                    outcomes[self.check(claim, (row, other))] += 1
                for other in [row + (("a", 1),), row + (("b", 1),), row[1:], (("c", 1),) + row, row + (("aa", 3),),
                              list(row), None]:
                    outcomes[self.check(claim, (other, table))] += 1
        self.assertGreater(outcomes[False], 1000)
        self.assertGreater(outcomes[True], 50)

    def test_papers_of_other_claims(self):
        all_papers = [pair for numbers in SMALL[:10] for pair in papers_of(numbers, SMALL[:3])]
        draw = random.Random(82)
        for claim, _ in all_papers:
            for _, paper in draw.sample(all_papers, 40):
                self.check(claim, paper)

    def test_opposite_claims(self):
        for numbers in SMALL:
            for claim, paper in papers_of(numbers, SMALL):
                if claim[0] in OPPOSITE:
                    self.assertIs(accepts((OPPOSITE[claim[0]], *claim[1:]), paper), False)
                else:
                    for rests in left_in_kind(numbers, claim[2]):
                        self.assertIs(accepts((*claim[:3], rests), paper), False)

    def test_a_pair_behind_which_a_size_is_too_great(self):
        great = (GREATEST, GREATEST, 1)
        self.assertIs(accepts(("kind", great, great), (("bb", 1),)), True)
        self.assertIs(accepts(("kind", great, great), (("baab", 1),)), True)
        self.assertIs(accepts(("kind", great, great), (("b", 1), ("b", 1))), False)
        self.assertIs(accepts(("ringed", (3, 4, 5)), (("abc", 99), ("cba", 99))), False)
        self.assertIs(accepts(("ringed", (3, 4, 5)), (("abc", MOST_TIMES), ("cba", MOST_TIMES))), False)
        self.assertIs(accepts(("freed", (GREATEST, GREATEST, -1)), ()), True)
        self.assertIs(accepts(("freed", (GREATEST, GREATEST, -1)), (("b", 1), ("b", 1))), False)
        root = 10 ** 150
        self.assertIs(accepts(("kind", (root, root, 0), (root, root, 0)), (("b", 1), ("b", 1))), True)
        self.assertIs(accepts(("kind", (root, root, -1), (root, root, -1)), (("b", 1), ("b", 1))), False)
        claim, (row, table) = certify_never(Standing(*great), 2, (0, 0, 0))
        self.assertIs(accepts(claim, (row, table)), True)
        self.assertIs(accepts(claim, ((("b", 1), ("b", 1)) + row, table)), False)
        claim, (first, second) = certify_kind(Standing(*great), Standing(3, 4, 5))
        self.assertIs(accepts(claim, (first, second)), True)
        self.assertIs(accepts(claim, ((("b", 1), ("b", 1)) + first, second)), False)


class NoClaimsTest(CheckerTest):
    def test_any_two_values(self):
        values = [*NO_INTEGERS, 0, -1, 10 ** 300, "ringed", ("ringed",), ("ringed", (3, 4, 5)), (), ((), ()),
                  [("ringed", (3, 4, 5))],
                  {"ringed": (3, 4, 5)}, (("b", 1),), ((((((((3,),),),),),),),), {1, 2}, Standing(3, 4, 5), accepts]
        for claim in values:
            for paper in values:
                self.assertIs(accepts(claim, paper), claim == ("ringed", (3, 4, 5)) and paper == ()
                              and type(claim) is tuple
                              and type(paper) is tuple)

    def test_other_words_and_lengths(self):
        for claim, paper in [(("ringed", (3, 4, 5)), ()), (("freed", (1, 1, 0)), ()),
                             (("kind", (3, 4, 5), (3, 4, 5)), ()),
                             (("parted", (3, 4, 5), (2, 2, 2)), ((), ())),
                             certify_never(Standing(3, 4, 5), 2, (0, 0, 0))]:
            self.assertTrue(self.check(claim, paper))
            for word in ("", "ring", "free", "Kind", "alike", "turns", "kind ", None, 0, True, b"kind", ("kind",),
                         ["kind"], {"kind": 0}, ANY):
                self.assertIs(accepts((word, *claim[1:]), paper), False)
            for other in [(*claim, 0), (*claim, (3, 4, 5)), claim[:-1], claim[:1], (), list(claim), (claim,),
                          (*claim, paper)]:
                self.assertIs(accepts(other, paper), False)

    def test_wrong_numbers_in_claims(self):
        wrong = [None, True, 3, "345", [3, 4, 5], (3, 4), (3, 4, 5, 6), (3, 4, True), (3, None, 5), ("3", 4, 5),
                 (3, 4, GREATEST + 1),
                 (-GREATEST - 1, 4, 5), ((3, 4, 5),), Standing(3, 4, 5), {3: 4}, (), (3, (4,), 5), (3, [4], 5)]
        for numbers in wrong:
            for claim, paper in [(("ringed", numbers), ()), (("freed", numbers), ()), (("kind", numbers, numbers), ()),
                                 (("kind", (3, 4, 5), numbers), ()), (("kind", numbers, (3, 4, 5)), ()),
                                 (("parted", numbers, (3, 4, 5)), ((), ())), (("parted", (3, 4, 5), numbers), ((), ())),
                                 (("never", numbers, 2, (0, 0, 0)), ((), ()))]:
                self.assertIs(accepts(claim, paper), False, claim)
        for numbers in [ANY, (ANY, ANY, ANY)]:
            # What is equal to all values is no triple for all that.
            self.assertIs(accepts(("kind", (3, 4, 5), numbers), ()), False)
        self.assertIs(accepts(("kind", (1, 0, 1), (1, 0, True)), ()), False)
        self.assertIs(accepts(("kind", (True, 0, 1), (1, 0, 1)), ()), False)

    def test_sizes_at_the_bound(self):
        for numbers in [(GREATEST, GREATEST, GREATEST), (-GREATEST, -GREATEST, -GREATEST)]:
            self.assertIs(accepts(("ringed", numbers), ()), True)
            self.assertIs(accepts(("kind", numbers, numbers), ()), True)
            more = tuple(number + (1 if number > 0 else -1) for number in numbers)
            self.assertIs(accepts(("ringed", more), ()), False)
            self.assertIs(accepts(("kind", more, more), ()), False)
            self.assertIs(accepts(("freed", (more[0], 0, 0)), ()), False)
            self.assertIs(accepts(("freed", (numbers[0], 0, 0)), ()), True)

    def test_another_m_or_other_remainders(self):
        claim, paper = certify_never(Standing(3, 3, 3), 6, (1, 1, 1))
        self.assertTrue(self.check(claim, paper))
        for number in (-1, 0, 1, 2, 3, 5, 7, 9, 12, 13, 18, 10 ** 300, *NO_INTEGERS):
            self.assertIs(accepts(("never", (3, 3, 3), number, (1, 1, 1)), paper), False, number)
        for rests in [*NO_INTEGERS, 0, (), (1, 1), (1, 1, 1, 1), [1, 1, 1], (1, 1, 6), (-1, 1, 1), (1, 1, 10 ** 40),
                      (1, True, 1),
                      (1, 1, None), (3, 3, 3)]:
            self.assertIs(accepts(("never", (3, 3, 3), 6, rests), paper), False, rests)
        for rests in [(1, 1, 2), (5, 5, 5), (0, 1, 0)]:
            self.assertTrue(self.check(("never", (3, 3, 3), 6, rests), paper))


class TablesTest(CheckerTest):
    def test_more_pairs_than_needed_but_closed(self):
        whole = tuple(((x, y, z), place) for x, y, z in itertools.product(range(3), repeat=3) for place in range(3))
        for numbers in [(3, 3, 3), (6, 6, 6), (3, 6, 9)]:
            claim, (row, table) = certify_never(Standing(*numbers), 3, (1, 1, 1))
            self.assertEqual({rests for rests, _ in table}, {(0, 0, 0)})
            for rests in itertools.product(range(3), repeat=3):
                # All that the remainders do not come from is a table, too, if it is closed.
                found = tuple(pair for pair in whole if pair[0] != rests)
                self.check(("never", numbers, 3, rests), (row, found))
                self.check(("never", numbers, 3, rests), (row, table))
            self.assertIs(accepts(claim, (row, tuple(sorted({*table, ((0, 0, 1), 0)})))), False)

    def test_an_empty_table(self):
        # From these no turn leads away from the foot.
        for numbers, number, rests in [((2, 2, 2), 5, (1, 2, 2)), ((0, 0, 0), 2, (1, 0, 0)), ((0, 3, 0), 12, (0, 4, 0)),
                                       ((1, 1, 0), 3, (0, 0, 0))]:
            claim, paper = certify_never(Standing(*numbers), number, rests)
            self.assertEqual(paper, ((), ()))
            self.assertTrue(self.check(claim, paper))
            for left in left_in_kind(numbers, number):
                self.assertIs(accepts(("never", numbers, number, left), paper), False)
        self.assertIs(accepts(("never", (3, 4, 5), 2, (0, 0, 0)), ((), ())), False)

    def test_the_greatest_tables(self):
        longest = 0
        for numbers in [(3, 4, 5), (2, 3, 4), (3, 3, 4), (5, 7, 11), (1, 6, 4)]:
            for number in (11, 12):
                left = left_in_kind(numbers, number)
                for rests in itertools.islice((rests for rests in itertools.product(range(number), repeat=3)
                                               if rests not in left), 2):
                    claim, (row, table) = certify_never(Standing(*numbers), number, rests)
                    longest = max(longest, len(table))
                    self.assertTrue(self.check(claim, (row, table)))
                    self.assertIs(accepts(claim, (row, table[1:])), False)
                    self.assertIs(accepts(claim, (row, table[:-1])), False)
                    self.assertIs(accepts(claim, (row, table + table[-1:])), False)
        self.assertGreater(longest, 500)

    def test_more_than_ten_thousand_pairs(self):
        claim, (row, table) = certify_never(Standing(3, 4, 5), 2, (0, 0, 0))
        self.assertIs(accepts(claim, (row, table * 5000)), False)
        self.assertIs(accepts(claim, (row, tuple(((1, 1, 1), place) for place in range(20000)))), False)


class FarTest(unittest.TestCase):
    def test_sizes_of_a_hundred_and_sixty_figures_and_more(self):
        for sizes in [(10 ** 160, 10 ** 160 + 1, 10 ** 160 + 2), (3, 10 ** 170, 10 ** 170),
                      (10 ** 299, GREATEST, GREATEST)]:
            for sign in (1, -1):
                numbers = tuple(sign * size for size in sizes)
                other = tuple(-number for number in numbers)
                self.assertIs(accepts(("ringed", numbers), ()), True)
                self.assertIs(accepts(("freed", numbers), ()), False)
                self.assertIs(accepts(("parted", numbers, other), ((), ())), True)
                self.assertIs(accepts(("kind", numbers, other), ()), False)
                self.assertIs(accepts(("parted", numbers, numbers), ((), ())), False)
                behind = loop(numbers, "b")
                if max(map(abs, behind)) <= GREATEST:
                    self.assertIs(accepts(("ringed", behind), (("b", 1),)), True)
                    self.assertIs(accepts(("ringed", behind), ()), False)
                    self.assertIs(accepts(("parted", behind, other), ((("b", 1),), ())), True)
                    self.assertIs(accepts(("parted", behind, other), ((), ())), False)

    def test_both_senses_of_a_ring(self):
        for p, q in [(4, 5), (10 ** 80, 10 ** 90), (2, 10 ** 170)]:
            numbers = (p, q, p * q // 2)
            other = tuple(-number for number in numbers)
            self.assertIs(accepts(("parted", numbers, other), ((), ())), False)
            self.assertIs(accepts(("kind", numbers, other), (("b", 1),)), True)
            self.assertIs(accepts(("kind", numbers, other), ()), False)
            more = (p, q, p * q // 2 - 1) if p > 2 else (3, q, q)
            self.assertIs(accepts(("parted", more, tuple(-number for number in more)), ((), ())), True)
            self.assertIs(accepts(("parted", numbers, more), ((), ())), True)

    def test_far_up_by_a_tie_of_two_arrows(self):
        for many in (10 ** 30, 10 ** 160 + 1, 10 ** 299):
            one = Standing(2, 3, 4)
            far = turned(one, (("ab", many),))
            self.assertIs(accepts(("kind", one.numbers, far.numbers), (("ab", many),)), True)
            self.assertIs(accepts(("kind", far.numbers, one.numbers), (("ba", many),)), True)
            for row in [(("ab", many - 1),), (("ab", many + 1),), (("ba", many),), (("ab", many), ("a", 1)), ()]:
                self.assertIs(accepts(("kind", one.numbers, far.numbers), row), False)
            self.assertIs(accepts(("freed", far.numbers), (("ba", many), ("bab", 1))), True)
            self.assertIs(accepts(("ringed", far.numbers), (("ba", many),)), False)
            claim, (row, table) = certify_never(far, 4, (0, 0, 0))
            self.assertEqual(table, certify_never(one, 4, (0, 0, 0))[1][1])
            self.assertIs(accepts(claim, (row, table)), True)
            self.assertIs(accepts(claim, ((("ba", many), ("ba", 1)), table)), True)
            self.assertIs(accepts(claim, ((("ba", many),), table)), False)
            self.assertIs(accepts(claim, (row, table[1:])), False)

    def test_members_of_the_foot_that_are_too_great_count(self):
        # A turn at b leads to a ring with a size 1 and one of 2 * 10 ** 300.
        numbers = (1, GREATEST, -GREATEST)
        left = left_in_kind(numbers, 7)
        self.assertIn(tuple(abs(size) % 7 for size in (1, GREATEST, 2 * GREATEST)), left)
        for rests in itertools.product(range(7), repeat=3):
            found = certify_never(Standing(*numbers), 7, rests)
            self.assertEqual(found is None, rests in left)
            if found is not None:
                self.assertIs(accepts(*found), True)


class TrueTest(unittest.TestCase):
    """What is accepted is true, whatever the paper: drawn papers for claims about all small standings."""

    def test_drawn_papers(self):
        draw = random.Random(83)
        small = list(all_numbers(3))
        ringed = {numbers: all(map(is_least_ring, foot_by_walk(numbers))) for numbers in small}
        accepted = 0
        for _ in range(4000):
            one, other = draw.choice(small), draw.choice(small)
            rows = [tuple(("".join(draw.choice("abc") for _ in range(draw.randint(1, 4))), draw.randint(0, 2))
                          for _ in range(draw.randint(0, 2))) for _ in range(2)]
            same = foot_by_walk(one) == foot_by_walk(other)
            for claim, paper, true in [
                (("ringed", one), rows[0], ringed[one]), (("freed", one), rows[0], not ringed[one]),
                (("kind", one, other), rows[0], same), (("kind", one, loop(one, "ba")), (("b", 1), ("a", 1)), True),
                (("parted", one, other), tuple(rows), not same),
            ]:
                if max(map(abs, claim[-1])) <= GREATEST and accepts(claim, paper):
                    accepted += 1
                    self.assertTrue(true, (claim, paper))
        self.assertGreater(accepted, 4000)

    def test_no_table_for_what_comes(self):
        draw = random.Random(84)
        for numbers in SMALL:
            for number in (2, 3):
                left = left_in_kind(numbers, number)
                row = descent(Standing(*numbers))
                whole = [((x, y, z), place) for x, y, z in itertools.product(range(number), repeat=3)
                         for place in range(3)]
                for rests in itertools.product(range(number), repeat=3):
                    # The greatest table that does without the remainders and is closed.
                    table = [pair for pair in whole if pair[0] != rests]
                    for _ in range(4):
                        tables = [table, draw.sample(table, draw.randint(0, len(table)))]
                        for found in tables:
                            if accepts(("never", numbers, number, rests), (row, tuple(sorted(found)))):
                                self.assertNotIn(rests, left)

    def test_roads_and_descents_are_papers(self):
        for numbers in SMALL:
            for word in ("a", "bc", "cab"):
                one, other = Standing(*numbers), Standing(*loop(numbers, word))
                self.assertIs(accepts(("kind", one.numbers, other.numbers), road(one, other)), True)
                if freeing(other) is None:
                    self.assertIs(accepts(("ringed", other.numbers), descent(other)), True)
                else:
                    self.assertIs(accepts(("freed", other.numbers), freeing(other)), True)


if __name__ == "__main__":
    unittest.main()
