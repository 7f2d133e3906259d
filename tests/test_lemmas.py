"""Points 74 to 77: gains of clauses, best lemmas, rows of lemmas, and the shortest ones."""

import unittest

from lookdepths.books import Book
from lookdepths.depths import depth_of, seen_at
from lookdepths.errors import Filled, InvalidBook, InvalidClause, InvalidDepth, InvalidNumber, InvalidTree, Refused
from lookdepths.lemmas import best_lemmas, fewest_lemmas, gain_of, gains, is_row, row_of_tree, shortest_row
from lookdepths.trees import least_tree, leaves_of
from tests.helper import (
    FailsCase, any_objects, can_fill, chain, copies, depths_of_all, every_book, every_plan, every_row, guests,
    holds, is_leaf, is_row as is_clause, left_over, names_in, pseudo_books, ring, satisfying, scramble, seen_depth,
    shown, signs, turned_around,
)

TWO = [("a", "b"), ("-b", "a"), ("-a", "b"), ("-a", "-b")]
HIDDEN = [("a", "b", "d"), ("-b", "a", "d"), ("-a", "b", "d"), ("-a", "-b", "d")]
SMALL = every_book(["a", "b"], 9)
CHANCE = (pseudo_books(101, 20, ["a", "b", "c"], 6, 3) + pseudo_books(102, 20, ["a", "b", "c"], 7, 3, 2)
          + pseudo_books(103, 2, ["a", "b", "c", "d"], 9, 3, 2))
NAMED = [TWO, HIDDEN, signs(["a"]), signs(["a", "b", "c"]), ring(["a", "b", "c"]), chain(["a", "b", "c"]), copies(1, 3),
         [("a", "b", "c"), ("-a", "b"), ("-b", "c")], [()], [], [(), ("a",)], [("a",)]]
FEW = SMALL[::8] + CHANCE + NAMED


def depth_plainly(rows):
    return max([0, *[depth for depth in depths_of_all(tuple(rows)).values() if depth is not None]])


def following(rows):
    """The clauses that follow, by ALL fillings."""
    names = names_in(rows)
    filled = satisfying(rows, names)
    return sorted(clause for clause in every_row(names) if all(holds(clause, values) for values in filled))


def gain_plainly(rows, clause):
    return depth_plainly(rows) - depth_plainly(sorted({*rows, clause}))


def is_row_plainly(rows, depth, value):
    """Whether any object is a row of lemmas, as point 76 says it."""
    if not isinstance(value, list) or value[-1:] != [()] or not all(is_clause(clause) for clause in value):
        return False
    if not set(names_in(value)) <= set(names_in(rows)):
        return False
    for at, clause in enumerate(value):
        seen = seen_depth(left_over([*rows, *value[:at]], turned_around(clause)))
        if seen is None or seen > depth:
            return False
    return True


def places_of(plan, literals=()):
    """The clauses of the places of a tree, each behind those of its trees."""
    if is_leaf(plan):
        return []
    name, high, low = plan
    return places_of(high, (*literals, name)) + places_of(low, (*literals, "-" + name)) + [turned_around(literals)]


def fewest_plainly(rows, depth, most):
    """The length of the shortest row of lemmas, None if there is none of at most so many clauses."""
    ahead = {frozenset(rows)}
    for many in range(1, most + 1):
        if any(is_row_plainly(sorted(more), depth, [()]) for more in ahead):
            return many
        new = set()
        for more in ahead:
            for clause in every_row(names_in(rows)):
                seen = seen_depth(left_over(more, turned_around(clause)))
                if clause not in more and seen is not None and seen <= depth:
                    new.add(more | {clause})
        ahead = new
    return None


class GainTest(FailsCase):
    def test_gains_against_a_plain_search(self):
        for rows in FEW:
            book, told = Book(rows), following(rows)
            for clause in sorted(every_row(names_in(rows))):
                if clause in told:
                    gain = gain_plainly(rows, clause)
                    self.assertEqual(gain_of(book, clause), gain, (rows, clause))
                    self.assertTrue(0 <= gain <= seen_at(book, clause))
                else:
                    self.fails(Refused, clause, gain_of, book, clause)

    def test_all_gains_and_best_lemmas(self):
        for rows in FEW:
            book = Book(rows)
            for number in [0, 1, 2, 60]:
                told = {clause: gain_plainly(rows, clause) for clause in following(rows)
                        if len(clause) <= number and clause not in rows}
                self.assertEqual(shown(gains(book, number)), shown(told), (rows, number))
                most = max([gain for clause, gain in told.items() if clause], default=0)
                best = [clause for clause, gain in told.items() if clause and gain == most and most > 0]
                self.assertEqual(best_lemmas(book, number), best)

    def test_edges(self):
        self.assertEqual(gains(Book(TWO), 0), {(): 2})
        self.assertEqual([best_lemmas(Book(TWO), 0), best_lemmas(Book(chain(["a", "b"])), 2)], [[], []])
        self.assertEqual([gains(Book([]), 3), gains(Book([()]), 3), best_lemmas(Book([]), 3)], [{}, {}, []])
        self.assertEqual([gain_of(Book(HIDDEN), ("d",)), depth_of(Book(HIDDEN + [("d",)]))], [2, 0])
        self.assertEqual(gain_of(Book([()]), ()), 0)
        # A clause that is there gains nothing, nor does one within which there is one.
        self.assertEqual([gain_of(Book(TWO), ("a", "b")), gain_of(Book(TWO + [("a",)]), ("a", "b"))], [0, 0])
        scramble(gains(Book(TWO), 2))
        scramble(best_lemmas(Book(ring(["a", "b", "c"])), 1))
        self.assertEqual(len(best_lemmas(Book(ring(["a", "b", "c"])), 1)), 6)

    def test_wrong_arguments(self):
        book = Book(TWO)
        for clause in [("c",), ("b", "a"), ["a"], None, ("a", "-a"), "a", 0]:
            self.fails(InvalidClause, clause, gain_of, book, clause)
        for function in [gains, best_lemmas]:
            self.fails(InvalidBook, None, function, None, None)
            for number in [-1, True, None, "1", [1], (1,)]:
                self.fails(InvalidNumber, number, function, book, number)


class RowTest(FailsCase):
    def check(self, rows, depth, value):
        told = is_row_plainly(rows, depth, value)
        self.assertIs(is_row(Book(rows), depth, value), told, (rows, depth, value))
        return told

    def test_any_objects(self):
        for rows in [TWO, [()], [], [("a",), ("-a",)], [("a", "b")]]:
            for value in any_objects():
                for depth in [0, 1, 2]:
                    self.check(rows, depth, value)

    def test_rows_of_trees_and_bent_ones(self):
        for rows in [TWO, ring(["a", "b", "c"]), signs(["a", "b", "c"]), chain(["a", "b"]), guests(2, 1), [(), ("a",)]]:
            tree = least_tree(Book(rows))
            value = row_of_tree(Book(rows), tree)
            right = wrong = 0
            values = [value, value[::-1], tuple(value), value[:-1], value + value[-1:], value[-1:], [value]]
            for at, clause in enumerate(value):
                head, tail = value[:at], value[at + 1:]
                values += [head + tail, head + [clause, clause] + tail, head + [list(clause)] + tail, head + [None] + tail]
                values += [head + [other] + tail for other in [*every_row(names_in(rows), 2), ("z",), ("b", "a")]]
            for bent in values:
                for depth in [0, 1, 2]:
                    told = self.check(rows, depth, bent)
                    right, wrong = right + told, wrong + (not told)
            self.assertTrue(right and wrong)

    def test_rows_of_all_trees_of_small_books(self):
        for rows in [TWO, chain(["a", "b"]), signs(["a"]), [(), ("a",), ("b",)], [("a",), ("-a",), ("-a", "b"), ("b",)]]:
            for tree in every_plan(rows):
                told = places_of(tree) or [()]
                self.assertEqual(row_of_tree(Book(rows), tree), told)
                self.assertIs(is_row(Book(rows), 1, told), True)
                self.assertEqual(len(told), max(1, leaves_of(Book(rows), tree) - 1))

    def test_edges(self):
        book = Book(TWO)
        self.assertEqual([is_row(book, 1, [("-a",), ()]), is_row(book, 1, [()]), is_row(book, 2, [()])], [True, False, True])
        self.assertEqual([is_row(book, 0, [("a", "b"), ()]), is_row(Book([()]), 0, [()])], [False, True])
        self.assertEqual([is_row(book, 10 ** 29, [()]), is_row(Book([("a",)]), 60, [()])], [True, False])
        # Clauses of the book, and the same ones again, may stand in it; the empty one also ahead of the last.
        self.assertTrue(is_row(book, 1, [("a", "b"), ("-a",), ("-a",), (), ("b",), ()]))
        for tree in [(), ("a", (), ()), None, [("a", "b")], ("a", ("-a", "-b"), ("a", "b"))]:
            self.fails(InvalidTree, tree, row_of_tree, book, tree)
        for depth in [-1, True, None, "1", [1]]:
            for function in [fewest_lemmas, shortest_row]:
                self.fails(InvalidDepth, depth, function, book, depth)
            self.fails(InvalidDepth, depth, is_row, book, depth, [()])


class FewestTest(FailsCase):
    def test_fewest_against_a_plain_search(self):
        some = SMALL[::2] + CHANCE[:40:2] + [ring(["a", "b", "c"]), copies(1, 3), chain(["a", "b", "c"]), [()], [(), ("a",)]]
        for rows in [rows for rows in some if not can_fill(frozenset(rows))]:
            book = Book(rows)
            for depth in range(4):
                if depth == 0 and () not in rows:
                    for function in [fewest_lemmas, shortest_row]:
                        self.fails(Refused, depth, function, book, depth)
                    continue
                fewest = fewest_lemmas(book, depth)
                self.assertEqual(fewest, fewest_plainly(rows, depth, 4 if len(names_in(rows)) < 3 else 2) or fewest, rows)
                self.assertIs(fewest == 1, depth_of(book) <= depth)
                row = shortest_row(book, depth)
                self.assertEqual(len(row), fewest)
                self.assertTrue(is_row_plainly(rows, depth, row))
                self.assertIs(is_row(book, depth, row), True)

    def test_fewest_of_all_signs(self):
        book = Book(signs(["a", "b", "c"]))
        self.assertEqual([fewest_lemmas(book, depth) for depth in [1, 2, 3, 60]], [4, 2, 1, 1])
        self.assertIsNone(fewest_plainly(signs(["a", "b", "c"]), 1, 3))
        self.assertEqual([fewest_lemmas(Book(TWO), depth) for depth in [1, 2]], [2, 1])

    def test_filled_ones(self):
        for rows in [[], [("a",)], HIDDEN, [("a", "b")]]:
            for depth in [0, 1, 8]:
                for function in [fewest_lemmas, shortest_row]:
                    self.fails(Filled, rows_book := Book(rows), function, rows_book, depth)


if __name__ == "__main__":
    unittest.main()
