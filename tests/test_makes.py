"""Points 63 to 67: books made by rules, what is told by their numbers, and the papers of this."""

import unittest

from lookdepths.books import Book
from lookdepths.depths import depth_of
from lookdepths.errors import InvalidBook, InvalidMake
from lookdepths.joins import (
    ending, is_ending, is_one_sided_ending, least_one_sided, least_width, one_sided_ending,
)
from lookdepths.looks import is_record, least_depth, record_of
from lookdepths.makes import (
    book_of, depth_told, is_short, is_single, leaves_told, points_told, tree_told, widths_told,
)
from lookdepths.opponents import are_points
from lookdepths.trees import fewest_leaves, is_least_tree, is_tree, is_tree_of_fewest, leaves_of, order_of, record_of_tree
from tests.helper import (
    FailsCase, any_objects, can_fill, chain, copies, every_book, guests, is_plan, is_score, names_in, plan_leaves,
    plan_order, pseudo_books, ring, row, scramble, signs,
)

LETTERS = "abcdefghijklmnopqrstuvwxyz"
SIGNS, RINGS = [("signs", many) for many in range(1, 7)], [("ring", many) for many in range(2, 9)]
CHAINS = [("chain", many) for many in range(1, 9)]
COPIES = [("copies", many, times) for many in range(1, 9) for times in range(1, 9) if many * times <= 8]
GUESTS = [("guests", many, rooms) for many in range(2, 9) for rooms in range(1, many) if many * rooms <= 8]
# Those of at most eight variables, and of at most six.
EIGHT = SIGNS + RINGS + CHAINS + COPIES + GUESTS
WRONG = [("signs", 0), ("signs", 27), ("signs", -1), ("signs", True), ("signs", "2"), ("signs",), ("signs", 2, 2),
         ("signs", None), ["signs", 2], ("ring", 1), ("ring", 0), ("ring", 27), ("ring", 2, 2), ("chain", 0), ("chain", 27),
         ("chain", True), ("copies", 2), ("copies", 0, 2), ("copies", 2, 0), ("copies", 27, 1), ("copies", 1, 27),
         ("copies", True, 1), ("copies", 1, True), ("copies", 1, 1, 1), ("guests", 2), ("guests", 2, 2), ("guests", 1, 2),
         ("guests", 1, 1), ("guests", 2, 0), ("guests", 1, 0), ("guests", 27, 1), ("guests", 27, 26), ("guests", 3, True),
         ("guests", 3, 1, 1), ("sign", 2), ("Signs", 2), (None, 2), (["signs"], 2), ("", 1), (), "signs", None, {"signs": 2},
         (("signs", 2),), ("signs", (2,)), ("signs", 10 ** 29), (2, "signs")]
ALL_FUNCTIONS = [book_of, depth_told, leaves_told, widths_told, tree_told, points_told]


def rows_of(make):
    kind, *numbers = make
    if kind == "copies":
        return copies(*numbers) if numbers[0] <= 4 else [row(*[entry[:-1] + entry[-1] + "a" for entry in clause])
                                                         for clause in signs(list(LETTERS[:numbers[0]]))]
    if kind == "guests":
        return guests(*numbers)
    return {"signs": signs, "ring": ring, "chain": chain}[kind](list(LETTERS[:numbers[0]]))


def variables_of(make):
    return make[1] * make[2] if len(make) == 3 else make[1]


class MakesTest(FailsCase):
    def test_books(self):
        for make in EIGHT:
            rows = rows_of(make)
            self.assertEqual(book_of(make).clauses(), sorted(set(rows)), make)
            self.assertEqual(len(book_of(make).variables()), variables_of(make))
            self.assertFalse(can_fill(frozenset(rows)))

    def test_edges_of_books(self):
        self.assertEqual(book_of(("signs", 1)).clauses(), [("-a",), ("a",)])
        self.assertEqual(book_of(("ring", 2)), book_of(("signs", 2)))
        self.assertEqual(book_of(("chain", 1)), book_of(("signs", 1)))
        self.assertEqual(book_of(("copies", 1, 1)).clauses(), [("-aa",), ("aa",)])
        self.assertEqual(book_of(("copies", 1, 2)).clauses(), [("-aa", "-ab"), ("-aa", "ab"), ("-ab", "aa"), ("aa", "ab")])
        self.assertEqual(book_of(("guests", 2, 1)).clauses(), [("-aa", "-ba"), ("aa",), ("ba",)])
        self.assertEqual(book_of(("chain", 26)).variables(), list(LETTERS))
        self.assertEqual(len(book_of(("ring", 26)).clauses()), 52)
        self.assertEqual(book_of(("guests", 26, 1)).variables(), [letter + "a" for letter in LETTERS])

    def test_told_numbers_against_the_books(self):
        for make in EIGHT:
            book = book_of(make)
            self.assertEqual(depth_told(make), least_depth(book), make)
            if make[0] != "guests":
                self.assertEqual(leaves_told(make), fewest_leaves(book), make)
            if make[0] != "guests" and variables_of(make) <= 6:
                self.assertEqual(widths_told(make), (least_width(book), least_one_sided(book)), make)

    def test_told_numbers_at_the_limits(self):
        self.assertEqual([depth_told(("signs", 26)), leaves_told(("signs", 26)), widths_told(("signs", 26))],
                         [26, 2 ** 26, (25, 26)])
        self.assertEqual([depth_told(("ring", 26)), leaves_told(("ring", 26)), widths_told(("ring", 26))], [2, 52, (2, 2)])
        self.assertEqual([widths_told(("ring", 2)), widths_told(("ring", 3))], [(1, 2), (2, 2)])
        self.assertEqual([depth_told(("chain", 26)), leaves_told(("chain", 26)), widths_told(("chain", 26))],
                         [1, 27, (1, 1)])
        self.assertEqual([widths_told(("chain", 1)), widths_told(("chain", 2)), leaves_told(("chain", 1))],
                         [(0, 1), (1, 1), 2])
        self.assertEqual([depth_told(("copies", 26, 26)), leaves_told(("copies", 26, 26)), widths_told(("copies", 26, 26))],
                         [27, 2 ** 26 * 51 - 50, (675, 26)])
        self.assertEqual([depth_told(("copies", 3, 1)), leaves_told(("copies", 3, 1)), widths_told(("copies", 3, 1))],
                         [3, 8, (2, 3)])
        self.assertEqual([depth_told(("copies", 1, 4)), leaves_told(("copies", 1, 4)), widths_told(("copies", 1, 4))],
                         [2, 8, (3, 2)])
        self.assertEqual(widths_told(("copies", 1, 1)), (0, 1))
        self.assertEqual([depth_told(("guests", 26, 25)), depth_told(("guests", 4, 3))], [25, 3])

    def test_told_trees(self):
        for make in EIGHT:
            book, tree = book_of(make), tree_told(make)
            self.assertTrue(is_plan(rows_of(make), tree), make)
            self.assertEqual([plan_order(tree), order_of(book, tree)], [depth_told(make)] * 2)
            self.assertTrue(is_tree(book, tree) and is_least_tree(book, tree))
            self.assertTrue(is_record(book, depth_told(make), record_of_tree(book, tree)))
            if make[0] != "guests":
                self.assertEqual([plan_leaves(tree), leaves_of(book, tree)], [leaves_told(make)] * 2)
                self.assertTrue(is_tree_of_fewest(book, depth_told(make), tree))

    def test_told_trees_of_many_variables(self):
        for make in [("ring", 26), ("chain", 26), ("guests", 26, 1), ("guests", 4, 3), ("copies", 1, 26)]:
            self.assertTrue(is_plan(rows_of(make) if make[0] != "copies" else book_of(make).clauses(), tree_told(make)))
            self.assertEqual(plan_order(tree_told(make)), depth_told(make))

    def test_told_points(self):
        for make in [make for make in EIGHT if variables_of(make) <= 6]:
            family = points_told(make)
            self.assertTrue(is_score(rows_of(make), family) and are_points(book_of(make), family))
            self.assertEqual(family[()], depth_told(make))
            self.assertEqual(list(family), sorted(family))
        for make in [make for make in EIGHT if variables_of(make) > 6] + [("chain", 26), ("guests", 26, 25)]:
            self.fails(InvalidMake, make, points_told, make)

    def test_told_things_may_be_changed(self):
        scramble(points_told(("signs", 2)))
        self.assertEqual(points_told(("signs", 2))[()], 2)

    def test_papers_of_the_books(self):
        for make in [make for make in EIGHT if variables_of(make) <= 5 and make[0] != "guests"]:
            book = book_of(make)
            width, one_sided = widths_told(make)
            self.assertTrue(is_ending(book, width, ending(book, width)))
            self.assertTrue(is_one_sided_ending(book, one_sided, one_sided_ending(book, one_sided)))
            self.assertTrue(is_record(book, depth_told(make), record_of(book, depth_told(make))))
            self.assertEqual(depth_of(book), depth_told(make))

    def test_wrong_makes(self):
        right = [value for value in any_objects() if isinstance(value, tuple) and value in EIGHT]
        for make in WRONG + [value for value in any_objects() if value not in right]:
            for function in ALL_FUNCTIONS:
                self.fails(InvalidMake, make, function, make)
        for make in GUESTS:
            for function in [leaves_told, widths_told]:
                self.fails(InvalidMake, make, function, make)

    def test_short_and_single_books(self):
        some = every_book(["a", "b"], 9)[::3] + pseudo_books(81, 60, ["a", "b", "c"], 5, 3) + pseudo_books(
            82, 20, ["a", "b", "c"], 4, 2, 2) + [[], [()], [("-a", "-b", "-c")], [("-a", "-b", "c")], [("a", "b", "c")]]
        for rows in some:
            book = Book(rows)
            self.assertIs(is_short(book), all(len(clause) <= 2 for clause in rows))
            plain = [[literal for literal in clause if literal in names_in(rows)] for clause in rows]
            self.assertIs(is_single(book), all(len(clause) <= 1 for clause in plain))
            if is_short(book):
                self.assertLessEqual(depth_of(book), 1 if can_fill(frozenset(rows)) else 2)
            if is_single(book):
                self.assertLessEqual(depth_of(book), 1)
        for function in [is_short, is_single]:
            for value in [None, [], [("a",)], ("signs", 2)]:
                self.fails(InvalidBook, value, function, value)


if __name__ == "__main__":
    unittest.main()
