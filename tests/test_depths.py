"""Points 29 to 34: what follows, how deep it lies, the depth of any book, and closings."""

import unittest

from lookdepths.books import Book
from lookdepths.depths import (
    all_depths, closing, deepest, depth_of, depths_counted, follows, is_closed, is_closing, is_deepest, is_least,
    least_following, seen_at, unseen,
)
from lookdepths.errors import InvalidClause, InvalidDepth, Refused
from lookdepths.looks import least_depth
from lookdepths.trees import least_tree
from tests.helper import (
    any_objects, can_fill, chain, depths_of_all, every_book, every_plan, every_row, holds, is_broken, is_plan,
    is_row, left_over, names_in, plan_order, pseudo_books, ring, satisfying, shown, signs, turned_around,
)

HIDDEN = [("a", "b", "d"), ("-b", "a", "d"), ("-a", "b", "d"), ("-a", "-b", "d")]
FREE = [("a", "b", "c"), ("-a", "b"), ("-b", "c")]
SMALL = every_book(["a", "b"], 9)
CHANCE = (pseudo_books(21, 40, ["a", "b", "c"], 5, 3) + pseudo_books(22, 30, ["a", "b", "c"], 4, 2, 2)
          + pseudo_books(23, 12, ["a", "b", "c", "d"], 8, 3, 2) + pseudo_books(24, 8, ["a", "b", "c", "d"], 14, 3, 2)
          + pseudo_books(25, 4, ["a", "b", "c", "d", "e"], 14, 3, 2) + pseudo_books(26, 2, list("abcde"), 24, 4, 3))
NAMED = [HIDDEN, FREE, signs(["a", "b", "c"]), ring(["a", "b", "c"]), chain(["a", "b", "c"]),
         ring(["a", "b", "c"])[:-1], signs(["a", "b", "c"])[:-1], [()], [], [(), ("a",)], [("a",)]]
ALL = SMALL + CHANCE + NAMED


def following(rows):
    """The clauses that follow, by ALL fillings."""
    names = names_in(rows)
    filled = satisfying(rows, names)
    return [clause for clause in every_row(names) if all(holds(clause, values) for values in filled)]


def least_ones(clauses):
    return sorted(clause for clause in clauses if not any(set(less) < set(clause) for less in clauses))


def barred_depths(rows):
    """The dictionary from the part-fillings whose rest can't be filled to the least depths."""
    return {part: depth for part, depth in depths_of_all(rows).items() if depth is not None}


def is_closing_plainly(rows, depth, value):
    """Whether any object is a closing, as point 34 says it."""
    if not isinstance(value, dict):
        return False
    names = names_in(rows)
    for clause, plan in value.items():
        if not is_row(clause) or not set(names_in([clause])) <= set(names):
            return False
        if not is_plan(left_over(rows, turned_around(clause)), plan) or plan_order(plan) > depth:
            return False
    barred = [part for part in every_row(names) if not can_fill(left_over(rows, part))]
    return all(any(is_broken(clause, part) for clause in value) for part in barred)


class FollowTest(unittest.TestCase):
    def test_follows(self):
        for rows in ALL:
            book, told = Book(rows), following(rows)
            for clause in every_row(names_in(rows)):
                self.assertIs(follows(book, clause), clause in told)
            self.assertIs(follows(book, ()), not can_fill(frozenset(rows)))

    def test_least_ones(self):
        for rows in ALL:
            book, told = Book(rows), following(rows)
            least = least_ones(told)
            self.assertEqual(least_following(book), least)
            for clause in every_row(names_in(rows)):
                if clause in told:
                    self.assertIs(is_least(book, clause), clause in least)
                else:
                    with self.assertRaises(Refused) as seen:
                        is_least(book, clause)
                    self.assertIs(seen.exception.value, clause)

    def test_seen_at(self):
        for rows in ALL:
            book, depths = Book(rows), depths_of_all(rows)
            for part, depth in depths.items():
                clause = turned_around(part)
                if depth is None:
                    with self.assertRaises(Refused) as seen:
                        seen_at(book, clause)
                    self.assertIs(seen.exception.value, clause)
                else:
                    self.assertEqual(seen_at(book, clause), depth)

    def test_wrong_clauses(self):
        for function in [follows, is_least, seen_at]:
            for clause in [("c",), ("a", "z"), ["a"], ("b", "a"), ("a", "a"), None, "a", ("-a", "a"), [("a",)], (1,)]:
                with self.assertRaises(InvalidClause) as seen:
                    function(Book([("a", "b"), ("-b", "a")]), clause)
                self.assertIs(seen.exception.value, clause)
            with self.assertRaises(InvalidClause):
                function(Book([]), ("a",))

    def test_edges(self):
        self.assertEqual([least_following(Book([])), least_following(Book([()])), least_following(Book([(), ("a",)]))],
                         [[], [()], [()]])
        self.assertEqual([follows(Book([]), ()), follows(Book([()]), ()), seen_at(Book([()]), ())], [False, True, 0])
        self.assertEqual([is_least(Book([()]), ()), is_least(Book([(), ("a",)]), ("a",))], [True, False])


class DepthTest(unittest.TestCase):
    def test_depths_of_all_part_fillings(self):
        for rows in ALL:
            book, barred = Book(rows), barred_depths(rows)
            self.assertEqual(list(all_depths(book).items()), sorted(barred.items()))
            deep = max(barred.values(), default=0)
            self.assertEqual(depth_of(book), deep)
            counts = list(barred.values())
            self.assertEqual(depths_counted(book), [counts.count(depth) for depth in range(deep + 1)])

    def test_deepest(self):
        for rows in ALL:
            book, barred = Book(rows), barred_depths(rows)
            part = deepest(book)
            if barred:
                self.assertEqual(barred[part], max(barred.values()))
                self.assertIs(is_deepest(book, part), True)
            else:
                self.assertIsNone(part)
            for value in [*every_row(names_in(rows))[::1 if len(names_in(rows)) < 4 else 5], ("z",), None]:
                self.assertIs(is_deepest(book, value), value in barred and barred[value] == max(barred.values()))

    def test_is_deepest_judges_any_object(self):
        for rows in [[], [()], [("a",)], HIDDEN]:
            for value in any_objects():
                right = is_row(value) and set(names_in([value])) <= set(names_in(rows))
                barred = barred_depths(rows)
                right = right and value in barred and barred[value] == max(barred.values())
                self.assertIs(is_deepest(Book(rows), value), right)

    def test_edges(self):
        none, empty = Book([]), Book([()])
        self.assertEqual([depth_of(none), deepest(none), depths_counted(none), all_depths(none)], [0, None, [0], {}])
        self.assertEqual([depth_of(empty), deepest(empty), depths_counted(empty), all_depths(empty)],
                         [0, (), [1], {(): 0}])
        self.assertEqual([depth_of(Book(HIDDEN)), deepest(Book(HIDDEN)), depth_of(Book(FREE))], [2, ("-d",), 1])

    def test_of_a_book_that_cannot_be_filled_it_is_the_least_depth(self):
        for rows in ALL:
            if not can_fill(frozenset(rows)):
                self.assertEqual(depth_of(Book(rows)), least_depth(Book(rows)))

    def test_closed_books(self):
        for rows in ALL:
            book, barred = Book(rows), barred_depths(rows)
            least = least_ones(following(rows))
            for depth in range(4):
                over = [clause for clause in least if barred[turned_around(clause)] > depth]
                self.assertEqual(unseen(book, depth), over)
                closed = all(barred[part] <= depth for part in barred)
                self.assertIs(is_closed(book, depth), closed)
                self.assertIs(closed, not over)

    def test_closed_at_any_depth(self):
        for depth in [0, 1, 8, 10 ** 29]:
            self.assertEqual([is_closed(Book([]), depth), unseen(Book([]), depth)], [True, []])
            self.assertEqual([is_closed(Book(HIDDEN), depth), unseen(Book(HIDDEN), depth)],
                             [depth >= 2, [] if depth >= 2 else [("d",)]])

    def test_wrong_depths(self):
        for function, more in [(is_closed, []), (unseen, []), (is_closing, [{}])]:
            for depth in [-1, True, False, None, "1", [1], (1,)]:
                with self.assertRaises(InvalidDepth) as seen:
                    function(Book([("a",)]), depth, *more)
                self.assertIs(seen.exception.value, depth)


class ClosingTest(unittest.TestCase):
    def test_closings_that_are_returned(self):
        for rows in ALL:
            book, deep = Book(rows), max(barred_depths(rows).values(), default=0)
            told = closing(book)
            self.assertEqual(list(told), least_ones(following(rows)))
            for clause in told:
                self.assertEqual(told[clause], least_tree(Book(list(left_over(rows, turned_around(clause))))))
            for depth in range(5):
                self.assertIs(is_closing(book, depth, told), depth >= deep)

    def test_with_a_clause_more_or_less(self):
        for rows in NAMED + CHANCE[:80:5] + SMALL[::20]:
            book, told, depths = Book(rows), closing(Book(rows)), barred_depths(rows)
            for clause in told:
                less = {other: told[other] for other in told if other != clause}
                self.assertIs(is_closing(book, 8, less), False)
            for clause in following(rows):
                tree = least_tree(Book(list(left_over(rows, turned_around(clause)))))
                more = {clause: tree, **told}
                for depth in range(3):
                    right = all(depths[turned_around(other)] <= depth for other in more)
                    self.assertIs(is_closing(book, depth, more), right)
            for clause in every_row([*names_in(rows), "z"]):
                if clause not in following(rows):
                    for tree in [(), *told.values(), *rows]:
                        self.assertIs(is_closing(book, 8, {**told, clause: tree}), False)

    def test_bent_in_one_place(self):
        for rows in [FREE, HIDDEN, [("a",), ("-a",)], ring(["a", "b", "c"]), [(), ("a",)],
                     [("a", "b"), ("-b", "a"), ("-a", "c")]]:
            book, told, right = Book(rows), closing(Book(rows)), 0
            values = [list(told.items()), tuple(told), None, {}, {**told, None: ()}, {**told, "a": ()}, {**told, 1: ()}]
            for clause in told:
                others = {other: told[other] for other in told if other != clause}
                left = left_over(rows, turned_around(clause))
                trees = every_plan(left)[:30] + [(), None, [], list(told[clause]), ("a", (), ()), *rows]
                values += [{**others, clause: tree} for tree in trees]
                values += [{**others, other: told[clause]} for other in every_row(names_in(rows))]
            for value in values:
                for depth in range(4):
                    told_plainly = is_closing_plainly(rows, depth, value)
                    self.assertIs(is_closing(book, depth, value), told_plainly, (rows, depth, shown(value)))
                    right += told_plainly
            self.assertGreater(right, 0)

    def test_trees_are_of_the_rest(self):
        # Of the rest of "-b" the clause ("a", "b") is not one, nor does it have the variable "b".
        book = Book([("a", "b"), ("-a", "b")])
        self.assertTrue(is_closing(book, 1, {("b",): ("a", ("-a",), ("a",))}))
        self.assertFalse(is_closing(book, 1, {("b",): ("a", ("-a", "b"), ("a", "b"))}))
        self.assertFalse(is_closing(book, 3, {("b",): ("b", ("a", ("-a",), ("a",)), ("a", ("-a",), ("a",)))}))
        self.assertFalse(is_closing(book, 0, {("b",): ("a", ("-a",), ("a",))}))

    def test_any_objects_are_judged(self):
        for rows in [[], [()], [("a",)], [("a",), ("-a",)], [("a", "b"), ("-b", "a")]]:
            for value in any_objects():
                for depth in [0, 1, 3]:
                    self.assertIs(is_closing(Book(rows), depth, value), is_closing_plainly(rows, depth, value))


if __name__ == "__main__":
    unittest.main()
