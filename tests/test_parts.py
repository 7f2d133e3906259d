"""Points 68 to 73: books side by side, pieces, cores, needed clauses, values, and first places."""

import itertools
import unittest

from lookdepths.books import Book, pieces, side_by_side
from lookdepths.depths import depth_of
from lookdepths.errors import Filled, InvalidBook, InvalidVariable, Refused
from lookdepths.parts import (
    any_core, core_depths, cores, depth_beside, depth_by_pieces, depths_of_values, first_places, is_core,
    keeping_literals, needed_clauses, splitting_variables,
)
from tests.helper import (
    FailsCase, any_objects, both, can_fill, chain, copies, depths_of_all, every_book, every_plan, guests, is_leaf,
    left_over, names_in, plan_order, pseudo_books, ring, scramble, seen_depth, signs,
)

SMALL = every_book(["a", "b"], 9)
CHANCE = (pseudo_books(91, 40, ["a", "b", "c"], 7, 3) + pseudo_books(92, 20, ["a", "b", "c"], 10, 3, 2)
          + pseudo_books(93, 6, ["a", "b", "c", "d"], 10, 2) + pseudo_books(94, 4, ["a", "b", "c", "d"], 10, 3))
NAMED = [signs(["a", "b"]) + [("a",)], signs(["a"]), signs(["a", "b", "c"]), ring(["a", "b", "c"]), chain(["a", "b", "c"]),
         copies(1, 3), guests(3, 2), [()], [], [(), ("a",)], [("a",)], [(), ("a",), ("-a",)],
         chain(["a"]) + signs(["b", "c"]), [("a", "b"), ("-a", "c"), ("c", "d")]]
ALL = SMALL + CHANCE + NAMED
FEW = SMALL[::7] + CHANCE[::3] + NAMED
APART = [[], [()], [("x",)], signs(["x"]), [("x", "y"), ("-y", "x")], signs(["x", "y"]), chain(["x", "y"])]


def depth_plainly(rows):
    """The depth of a book by ALL part-fillings."""
    return max([0, *[depth for depth in depths_of_all(rows).values() if depth is not None]])


def is_core_plainly(rows, value):
    if not isinstance(value, list) or any(not isinstance(clause, tuple) or clause not in rows for clause in value):
        return False
    if value != sorted(set(value)) or can_fill(frozenset(value)):
        return False
    return all(can_fill(frozenset(value) - {clause}) for clause in value)


def all_cores(rows):
    """ALL lists of clauses that can't be filled, though without any one of them they can."""
    some = [list(lot) for many in range(len(rows) + 1) for lot in itertools.combinations(sorted(rows), many)]
    return sorted(lot for lot in some if is_core_plainly(rows, lot))


class BesideTest(FailsCase):
    def test_side_by_side(self):
        for rows in FEW:
            for others in APART:
                one, other = Book(rows), Book(others)
                self.assertEqual(depth_beside(one, other), depth_plainly(rows + others), (rows, others))
                self.assertEqual(depth_beside(other, one), depth_of(side_by_side(one, other)))

    def test_wrong_ones(self):
        one, other = Book([("a", "b")]), Book([("-b", "c")])
        self.fails(Refused, other, depth_beside, one, other)
        self.fails(InvalidBook, None, depth_beside, None, [])
        self.fails(InvalidBook, None, depth_beside, one, None)
        for function in [depth_by_pieces, cores, any_core, core_depths, needed_clauses, keeping_literals,
                         splitting_variables, first_places]:
            for value in [None, [], [("a",)], (), "a"]:
                self.fails(InvalidBook, value, function, value)
                self.fails(InvalidBook, value, is_core, value, [])
                self.fails(InvalidBook, value, depths_of_values, value, None)

    def test_by_pieces(self):
        for rows in FEW + [rows + others for rows in FEW[::2] for others in APART]:
            self.assertEqual(depth_by_pieces(Book(rows)), depth_plainly(rows), rows)

    def test_pieces_of_many_variables(self):
        three = signs(["a", "b", "c"]) + signs(["d", "e"]) + [("f", "g"), ("-f", "g"), ("h",)]
        self.assertEqual([depth_by_pieces(Book(three)), len(pieces(Book(three)))], [2, 4])
        self.assertEqual(depth_by_pieces(Book([("a", "b"), ("c", "d", "e"), ("-c", "d"), ("f", "g", "h", "i")])), 1)
        self.assertEqual(depth_by_pieces(Book([])), 0)


class CoreTest(FailsCase):
    def test_all_cores(self):
        for rows in SMALL[::2] + CHANCE[::2] + NAMED:
            if len(rows) <= 10:
                book, told = Book(rows), all_cores(rows)
                self.assertEqual(cores(book), told, rows)
                self.assertEqual(core_depths(book), [seen_depth(core) for core in told])
                self.assertTrue(all(depth >= depth_of(book) for depth in core_depths(book)))

    def test_any_core(self):
        for rows in ALL + [guests(4, 2), signs(list("abcd")) + ring(list("abcd"))]:
            core = any_core(Book(rows))
            if can_fill(frozenset(rows)):
                self.assertIsNone(core)
            else:
                self.assertTrue(is_core_plainly(rows, core), rows)
                self.assertIs(is_core(Book(rows), core), True)

    def test_judged_ones(self):
        for rows in SMALL[::5] + CHANCE[::8] + NAMED:
            book = Book(rows)
            for core in all_cores(rows)[:4] if len(rows) <= 10 else [any_core(book)]:
                values = [core, core[::-1], tuple(core), core + core[-1:], core + [("z",)], core + [None], core[1:], core[:-1],
                          [list(clause) for clause in core], sorted(rows), {clause: 1 for clause in core}]
                for value in values:
                    self.assertIs(is_core(book, value), is_core_plainly(rows, value), (rows, value))
                for at in range(len(core)):
                    for clause in rows:
                        value = sorted({*core[:at], *core[at + 1:], clause})
                        self.assertIs(is_core(book, value), is_core_plainly(rows, value))
        for rows in [[], [()], signs(["a"]), [("a",)]]:
            for value in any_objects():
                self.assertIs(is_core(Book(rows), value), is_core_plainly(rows, value))

    def test_edges(self):
        self.assertEqual([cores(Book([])), any_core(Book([])), is_core(Book([]), []), core_depths(Book([]))],
                         [[], None, False, []])
        self.assertEqual([cores(Book([(), ("a",), ("-a",)])), core_depths(Book([(), ("a",), ("-a",)]))],
                         [[[()], [("-a",), ("a",)]], [0, 1]])
        told = cores(Book(signs(["a"])))
        scramble(told)
        self.assertEqual(cores(Book(signs(["a"]))), [[("-a",), ("a",)]])

    def test_needed_clauses(self):
        for rows in SMALL[::2] + CHANCE[::2] + NAMED:
            book = Book(rows)
            if can_fill(frozenset(rows)):
                self.fails(Filled, book, needed_clauses, book)
                continue
            needed = []
            for clause in sorted(rows):
                less = seen_depth([other for other in rows if other != clause])
                needed += [clause] if less is None or less > seen_depth(rows) else []
            self.assertEqual(needed_clauses(book), needed, rows)


class ValuesTest(FailsCase):
    def test_values_and_literals(self):
        for rows in ALL:
            book, names = Book(rows), names_in(rows)
            if can_fill(frozenset(rows)):
                for function in [keeping_literals, splitting_variables, first_places]:
                    self.fails(Filled, book, function, book)
                for name in names:
                    self.fails(Filled, book, depths_of_values, book, name)
                continue
            depth = seen_depth(rows)
            below = {literal: seen_depth(left_over(rows, [literal])) for literal in both(names)}
            for name in names:
                told = depths_of_values(book, name)
                self.assertEqual(told, (below[name], below["-" + name]))
                self.assertTrue(max(told) == depth or told == (depth - 1, depth - 1))
            self.assertEqual(keeping_literals(book), [literal for literal in both(names) if below[literal] == depth])
            splits = [name for name in names if below[name] < depth and below["-" + name] < depth]
            self.assertEqual(splitting_variables(book), splits)

    def test_first_places_are_the_roots_of_trees_of_least_order(self):
        for rows in SMALL[::2] + [signs(["a"]), chain(["a", "b"]), signs(["a", "b"]) + [("a",)], [(), ("a",)], [()],
                                  guests(2, 1), [("a",), ("-a",), ("b",)], copies(1, 2)]:
            if can_fill(frozenset(rows)):
                continue
            plans = every_plan(rows, late=False)
            least = min(plan_order(plan) for plan in plans)
            roots = sorted({plan[0] for plan in plans if not is_leaf(plan) and plan_order(plan) == least})
            self.assertEqual(first_places(Book(rows)), roots, rows)
            self.assertTrue(roots or () in rows)
        for rows in [rows for rows in CHANCE + NAMED if not can_fill(frozenset(rows))]:
            depth = seen_depth(rows)
            roots = [name for name in names_in(rows)
                     if min(seen_depth(left_over(rows, [literal])) for literal in (name, "-" + name)) < depth]
            self.assertEqual(first_places(Book(rows)), roots)

    def test_wrong_variables(self):
        for rows in [signs(["a", "b"]), [("a", "b")], [()], []]:
            for variable in ["c", "-a", "A", None, True, ["a"], ("a",), "", 0]:
                self.fails(InvalidVariable, variable, depths_of_values, Book(rows), variable)


if __name__ == "__main__":
    unittest.main()
