"""Points 57 to 62: fillings, what may be set, solving, traps, and the sure depth."""

import itertools
import unittest

from lookdepths.books import Book
from lookdepths.depths import depth_of
from lookdepths.errors import InvalidBook, InvalidDepth, InvalidFilling, Refused
from lookdepths.fillings import (
    any_filling, any_trap, fillings_of, first_way, goes_through, is_trap, is_way, looks_used, many_fillings, may_set,
    sure_depth, sure_literals, traps,
)
from tests.helper import (
    FailsCase, against, any_objects, both, can_fill, chain, every_book, every_row, is_broken, left_over, looked,
    names_in, pseudo_books, ring, row, signs,
)

HIDDEN = [("a", "b", "d"), ("-b", "a", "d"), ("-a", "b", "d"), ("-a", "-b", "d")]
FREE = [("a", "b", "c"), ("-a", "b"), ("-b", "c")]
SMALL = every_book(["a", "b"], 9)
CHANCE = (pseudo_books(71, 30, ["a", "b", "c"], 5, 3) + pseudo_books(72, 20, ["a", "b", "c"], 4, 2, 2)
          + pseudo_books(73, 6, ["a", "b", "c", "d"], 9, 3, 2) + pseudo_books(74, 3, ["a", "b", "c", "d"], 13, 3, 3)
          + pseudo_books(75, 1, list("abcde"), 16, 3, 3))
NAMED = [HIDDEN, FREE, signs(["a", "b", "c"]), ring(["a", "b", "c"]), chain(["a", "b", "c"]), ring(["a", "b", "c"])[:-1],
         signs(["a", "b", "c"])[:-1], [()], [], [(), ("a",)], [("a",)], [("a", "b")]]
ALL = SMALL + CHANCE + NAMED
FEW = SMALL[::6] + CHANCE[::5] + NAMED


def filled(rows):
    """ALL part-fillings that set all variables and break no clause."""
    names = names_in(rows)
    return [part for part in sorted(every_row(names))
            if len(part) == len(names) and not any(is_broken(clause, part) for clause in rows)]


def open_literals(rows, part):
    return [literal for literal in both(names_in(rows)) if literal not in part and against(literal) not in part]


def settable(rows, part, depth):
    """The literals that may be set, as point 58 says it."""
    return [literal for literal in open_literals(rows, part) if not looked(left_over(rows, [*part, literal]), depth)]


def every_way(rows, part, depth):
    """ALL lists of literals of solving from a part-filling, to its end."""
    choices = settable(rows, part, depth)
    if not choices:
        yield []
    for literal in choices:
        for more in every_way(rows, (*part, literal), depth):
            yield [literal, *more]


def barred(rows):
    return [part for part in sorted(every_row(names_in(rows))) if not can_fill(left_over(rows, part))]


def forced_plainly(rows, depth):
    """The literals that looking at a depth forces in a rest."""
    found = []
    while depth > 0:
        failing = [literal for literal in both(names_in(rows)) if looked(left_over(rows, [literal]), depth - 1)]
        if not failing:
            break
        found.append(against(failing[0]))
        rows = left_over(rows, [against(failing[0])])
    return sorted(found)


def forces_all_sure(rows, depth):
    """Whether looking at a depth forces just the sure literals at every part-filling whose rest can be filled."""
    for part in every_row(names_in(rows)):
        left = left_over(rows, part)
        if can_fill(left):
            sure = set.intersection(*[set(filling) for filling in filled(left)])
            if forced_plainly(left, depth) != sorted(sure):
                return False
    return True


class FillingsTest(FailsCase):
    def test_fillings_against_all_part_fillings(self):
        for rows in ALL:
            book, told = Book(rows), filled(rows)
            self.assertEqual(fillings_of(book), told)
            self.assertEqual(many_fillings(book), len(told))
            if told:
                self.assertIn(any_filling(book), told)
                self.assertEqual(sure_literals(book), sorted(set.intersection(*[set(filling) for filling in told])))
            else:
                self.assertIsNone(any_filling(book))
                self.fails(Refused, book, sure_literals, book)

    def test_edges_of_fillings(self):
        self.assertEqual([fillings_of(Book([])), many_fillings(Book([])), any_filling(Book([]))], [[()], 1, ()])
        self.assertEqual([fillings_of(Book([()])), many_fillings(Book([()])), any_filling(Book([()]))], [[], 0, None])
        self.assertEqual(sure_literals(Book([])), [])
        self.assertEqual(many_fillings(Book([("a", "b", "c", "d", "e")])), 31)
        self.assertEqual(many_fillings(Book(ring(list("abcdefgh")))), 0)
        for function in [fillings_of, many_fillings, any_filling, sure_literals, sure_depth]:
            self.fails(InvalidBook, None, function, None)

    def test_what_may_be_set_at_all_part_fillings(self):
        for rows in FEW:
            book = Book(rows)
            for part in every_row(names_in(rows)):
                for depth in range(4):
                    self.assertEqual(may_set(book, part, depth), settable(rows, part, depth), (rows, part, depth))

    def test_also_what_is_gone_from_the_rest(self):
        book = Book([("a", "b")])
        self.assertEqual([may_set(book, ("a",), 0), may_set(book, ("a", "b"), 0), may_set(book, ("-a",), 0)],
                         [["-b", "b"], [], ["b"]])
        self.assertEqual(may_set(Book([(), ("a",)]), (), 0), [])
        self.assertEqual(may_set(Book([]), (), 5), [])

    def test_ways_in_any_order(self):
        for rows in SMALL[::4] + CHANCE[:10] + NAMED[:2] + NAMED[4:]:
            book = Book(rows)
            for part in sorted(every_row(names_in(rows)))[::3]:
                for depth in range(3):
                    ways = list(itertools.islice(every_way(rows, part, depth), 300))
                    for way in ways[::7] + ways[-1:]:
                        self.assertIs(is_way(book, part, depth, way), True)
                        self.assertIs(is_way(book, part, depth, tuple(way)), False)
                        for at in range(len(way)):
                            for value in [way[:at], way[:at] + way[at + 1:], way + [way[at]], way[::-1],
                                          way[:at] + [against(way[at])] + way[at + 1:], way[:at] + ["z"], way + [None],
                                          way[:at] + [[way[at]]] + way[at + 1:], way + ["z"]]:
                                told = any(value == other for other in every_way(rows, part, depth))
                                self.assertIs(is_way(book, part, depth, value), told, (rows, part, depth, value))

    def test_first_ways(self):
        for rows in FEW:
            book = Book(rows)
            for part in every_row(names_in(rows)):
                for depth in range(3):
                    now, way, used = part, [], []
                    while settable(rows, now, depth):
                        choices = settable(rows, now, depth)
                        used.append(len(choices))
                        way.append(choices[0])
                        now = row(*now, choices[0])
                    self.assertEqual(first_way(book, part, depth), way)
                    self.assertEqual(looks_used(book, part, depth), used)
                    self.assertIs(is_way(book, part, depth, way), True)

    def test_any_objects_are_judged(self):
        for rows, part in [(FREE, ()), ([], ()), ([()], ()), ([("a",)], ()), (HIDDEN, ("-d",))]:
            for value in any_objects():
                for depth in [0, 2]:
                    told = any(value == way for way in every_way(rows, part, depth))
                    self.assertIs(is_way(Book(rows), part, depth, value), told)
                    self.assertIs(is_trap(Book(rows), depth, value), value in barred_unseen(rows, depth))

    def test_going_through_is_never_going_back(self):
        for rows in SMALL + CHANCE[:50] + NAMED:
            book, names = Book(rows), names_in(rows)
            for depth in range(4):
                starts = [part for part in every_row(names) if not looked(left_over(rows, part), depth)]
                # It goes through exactly if whoever is not shown and has variables left can set one.
                stuck = [part for part in starts if len(part) < len(names) and not settable(rows, part, depth)]
                self.assertIs(goes_through(book, depth), not stuck and all(
                    len(part) < len(names) or not any(is_broken(clause, part) for clause in rows) for part in starts))
                self.assertIs(goes_through(book, depth), depth_of(book) <= depth)
                self.assertIs(goes_through(book, depth), traps(book, depth) == [])

    def test_traps_against_a_plain_search(self):
        for rows in ALL:
            book = Book(rows)
            for depth in range(4):
                told = barred_unseen(rows, depth)
                self.assertEqual(traps(book, depth), told)
                if told:
                    self.assertIn(any_trap(book, depth), told)
                else:
                    self.assertIsNone(any_trap(book, depth))
                for part in every_row(names_in(rows)):
                    self.assertIs(is_trap(book, depth, part), part in told)
                    self.assertIs(is_trap(book, depth, list(part)), False)

    def test_ways_through_a_trap_have_to_go_back(self):
        for rows in [HIDDEN, signs(["a", "b", "c"]), *CHANCE[:12]]:
            book = Book(rows)
            for trap in traps(book, 1):
                # Setting its literals in whatever order, each one may be set; and no filling is reached from it.
                for order in itertools.permutations(trap):
                    for at, literal in enumerate(order):
                        self.assertIn(literal, may_set(book, row(*order[:at]), 1))
                for way in itertools.islice(every_way(rows, trap, 1), 20):
                    self.assertNotIn(row(*trap, *way), filled(rows))

    def test_sure_depths_against_a_plain_search(self):
        for rows in SMALL + CHANCE[:40] + CHANCE[50:54] + NAMED:
            book = Book(rows)
            if not filled(rows):
                self.fails(Refused, book, sure_depth, book)
                continue
            least = next(depth for depth in itertools.count() if forces_all_sure(rows, depth))
            self.assertEqual(sure_depth(book), least, rows)
            self.assertIn(least - depth_of(book), [0, 1])
            self.assertTrue(forces_all_sure(rows, least + 1))

    def test_edges_of_the_sure_depth(self):
        self.assertEqual([sure_depth(Book([])), sure_depth(Book([("a",)])), sure_depth(Book([("a", "b")]))], [0, 1, 1])
        self.assertEqual([depth_of(Book(HIDDEN)), sure_depth(Book(HIDDEN))], [2, 3])
        told = [sure_depth(Book(rows)) - depth_of(Book(rows)) for rows in SMALL + CHANCE if filled(rows)]
        self.assertEqual(sorted(set(told)), [0, 1])

    def test_wrong_arguments(self):
        book = Book(FREE)
        for part in [("d",), ("b", "a"), ["a"], None, ("a", "-a"), "a", 0]:
            for function in [may_set, first_way, looks_used]:
                self.fails(InvalidFilling, part, function, book, part, -1)
            self.fails(InvalidFilling, part, is_way, book, part, -1, [])
        for depth in [-1, True, None, "1", [1]]:
            for function in [may_set, first_way, looks_used]:
                self.fails(InvalidDepth, depth, function, book, (), depth)
            for function in [goes_through, traps, any_trap]:
                self.fails(InvalidDepth, depth, function, book, depth)
            self.fails(InvalidDepth, depth, is_way, book, (), depth, [])
            self.fails(InvalidDepth, depth, is_trap, book, depth, ())


def barred_unseen(rows, depth):
    return [part for part in barred(rows) if not looked(left_over(rows, part), depth)]


if __name__ == "__main__":
    unittest.main()
