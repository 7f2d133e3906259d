"""Points 35 to 41: trees, their orders and leaves, their records, the least ones, and books of trees."""

import unittest

from lookdepths.books import Book, either, turned_book
from lookdepths.errors import Filled, InvalidBook, InvalidFilling, InvalidLook, InvalidNumber, InvalidTree
from lookdepths.looks import depth_of_record, is_record, least_depth, record_of
from lookdepths.trees import (
    asked_on, book_of_tree, fewest_at, fewest_leaves, heights, is_least_tree, is_tree, is_tree_of_fewest, leaf_at,
    leaves_by_order, leaves_of, least_tree, order_of, record_of_tree, tree_of_fewest, tree_of_record, ways_to_leaves,
)
from tests.helper import (
    against, any_objects, assignments, both, can_fill, chain, copies, every_book, every_plan, guests, is_leaf, is_look,
    is_plan, names_in, plan_leaves, plan_order, plan_shapes, pseudo_books, ring, row, seen_depth, signs,
)

TWO = [("a", "b"), ("-b", "a"), ("-a", "b"), ("-a", "-b")]
# Books whose fewest leaves want a greater order than their least one.
APART = [("-a", "-d"), ("-b",), ("-d", "a"), ("-e", "b"), ("-e", "d"), ("d", "e")]
APART_BY_TWO = [("-a", "-d"), ("-b", "-c"), ("-d", "a"), ("-e", "b"), ("-e", "d"), ("c",), ("c", "e", "f"), ("d", "e")]
APART_BY_THREE = [
    ("-a", "-d"), ("-a", "-e", "c"), ("-b",), ("-b", "e"), ("-c",), ("-c", "-f", "e"), ("-d", "a"), ("-d", "a", "f"),
    ("-e", "-f", "b"), ("-e", "d"), ("a", "c", "f"), ("c", "f"), ("d", "e"),
]
SMALL = every_book(["a", "b"], 9)
CHANCE = (pseudo_books(11, 60, ["a", "b", "c"], 7, 3) + pseudo_books(12, 40, ["a", "b", "c"], 6, 2)
          + pseudo_books(13, 25, ["a", "b", "c", "d"], 12, 3) + pseudo_books(14, 15, ["a", "b", "c", "d", "e"], 16, 2)
          + pseudo_books(15, 10, ["a", "b", "c", "d", "e"], 10, 2))
NAMED = [signs(["a"]), TWO, signs(["a", "b", "c"]), signs(["a", "b", "c", "d"]), ring(["a", "b"]), chain(["a"]),
         ring(["a", "b", "c"]), ring(["a", "b", "c", "d"]), chain(["a", "b", "c", "d"]), copies(1, 3), copies(2, 2),
         guests(3, 2), either(Book(signs(["b", "c"])), Book(chain(["d", "e"])), "a").clauses(),
         either(Book(chain(["d", "e"])), Book(signs(["b", "c"])), "a").clauses(), APART, APART_BY_TWO, APART_BY_THREE,
         [()], [(), ("a",)]]
ALL = SMALL + CHANCE + NAMED
BARRED = [rows for rows in ALL if not can_fill(frozenset(rows))]
OPEN = [rows for rows in ALL if can_fill(frozenset(rows))]
# Books of which ALL trees are looked at, cut at once or late.
WHOLE = [TWO, signs(["a"]), chain(["a", "b"]), [()], [(), ("a",)], [(), ("a", "b"), ("-b",)], [("a",), ("-a",), ("b",)],
         [("-a",), ("a", "b"), ("-b",)]]


def plans_of(rows):
    return every_plan(rows) if rows in WHOLE else every_plan(rows, late=False)[:40]


def record_plainly(plan):
    """The record of a tree, as point 37 says it."""
    if is_leaf(plan):
        return [plan]
    name, high, low = plan
    if plan_order(low) < plan_order(high):
        return [(name, record_plainly(low)), *record_plainly(high)]
    return [("-" + name, record_plainly(high)), *record_plainly(low)]


def plan_plainly(look):
    """The tree of a record, as point 37 says it."""
    if len(look) == 1:
        return look[0]
    (literal, within), follows = look[0], look[1:]
    sides = {against(literal): plan_plainly(within), literal: plan_plainly(follows)}
    name = literal.strip("-")
    return (name, sides[name], sides["-" + name])


def ways_plainly(plan, literals=()):
    if is_leaf(plan):
        return [row(*literals)]
    name, high, low = plan
    return ways_plainly(high, (*literals, name)) + ways_plainly(low, (*literals, "-" + name))


def bent(plan, names):
    """Whatever comes of a tree if one place of it is bent."""
    yield list(plan)
    yield plan + ((),)
    yield plan[:-1]
    yield (plan,)
    for name in [*names, "z", "A"]:
        yield (name, plan, plan)
        yield (name, plan)
        yield ("-" + name, plan, plan)
        yield (name, list(plan), plan)
    if is_leaf(plan):
        for literal in both([*names, "z"]):
            yield row(*plan, literal)
            yield row(*[entry for entry in plan if entry != literal])
            yield literal
        yield plan[::-1]
        yield None
        yield [()]
        return
    name, high, low = plan
    yield (name, low, high)
    yield (name, high, high)
    yield high
    for other in [*names, "-" + name, "", None, (name,)]:
        yield (other, high, low)
    for inner in bent(high, names):
        yield (name, inner, low)
    for inner in bent(low, names):
        yield (name, high, inner)


def tree_forms(places, names):
    """ALL trees by their form with so many places that ask some variables, each at one place; leaves are empty."""
    if places == 0:
        return [()]
    forms = []
    for left in range(places):
        for high in tree_forms(left, names[1:]):
            for low in tree_forms(places - 1 - left, names[1 + left:]):
                forms.append((names[0], high, low))
    return forms


class TreeTest(unittest.TestCase):
    def test_all_trees_of_small_books(self):
        for rows in WHOLE:
            book, plans = Book(rows), every_plan(rows)
            self.assertTrue(plans)
            for plan in plans:
                self.assertIs(is_tree(book, plan), True)
                self.assertEqual(order_of(book, plan), plan_order(plan))
                self.assertEqual(leaves_of(book, plan), plan_leaves(plan))

    def test_there_is_one_exactly_if_the_book_cannot_be_filled(self):
        for rows in SMALL:
            self.assertIs(every_plan(rows) == [], can_fill(frozenset(rows)))
        for rows in BARRED:
            self.assertTrue(is_tree(Book(rows), least_tree(Book(rows))))

    def test_trees_cut_at_once_and_late(self):
        book = Book([("a",), ("-a",), ("-a", "b")])
        for tree in [("a", ("-a",), ("a",)), ("b", ("a", ("-a",), ("a",)), ("a", ("-a",), ("a",))),
                     ("a", ("b", ("-a",), ("-a",)), ("a",)), ("a", ("b", ("-a",), ("-a", "b")), ("b", ("a",), ("a",)))]:
            self.assertTrue(is_tree(book, tree))
        for tree in [("a",), (), ("a", ("a",), ("-a",)), ("a", ("-a",), ("a", ("a",), ("a",))), ("c", ("a",), ("a",)),
                     ("a", ("-a", "b"), ("a",)), ("b", ("a",), ("a",)), ("a", ("-a",), ("b", ("b",), ("a",)))]:
            self.assertFalse(is_tree(book, tree))

    def test_bent_trees(self):
        for rows in [TWO, chain(["a", "b", "c"]), ring(["a", "b", "c"]), [(), ("b",)], APART]:
            book, names = Book(rows), names_in(rows)
            right = 0
            for value in [value for plan in plans_of(rows)[:8] for value in bent(plan, names)]:
                if is_plan(rows, value):
                    right += 1
                    self.assertTrue(is_tree(book, value))
                    self.assertEqual(order_of(book, value), plan_order(value))
                else:
                    self.assertIs(is_tree(book, value), False, value)
                    for function in [order_of, leaves_of, record_of_tree, ways_to_leaves, heights]:
                        with self.assertRaises(InvalidTree) as seen:
                            function(book, value)
                        self.assertIs(seen.exception.value, value)
            self.assertGreater(right, 0)

    def test_any_objects_are_judged(self):
        for rows in [TWO, [()], [], [("a",), ("-a",)], [(), ("a", "b")]]:
            for value in any_objects():
                self.assertIs(is_tree(Book(rows), value), is_plan(rows, value))
                if not is_plan(rows, value):
                    self.assertIs(is_least_tree(Book(rows), value), False)
                    self.assertIs(is_tree_of_fewest(Book(rows), 3, value), False)

    def test_trees_of_another_book(self):
        tree = least_tree(Book(TWO))
        self.assertFalse(is_tree(Book(TWO[:3]), tree))
        self.assertTrue(is_tree(Book(TWO + [("c",)]), tree))
        self.assertFalse(is_tree(Book(ring(["a", "b", "c"])), tree))
        three = ("a", ("-a",), ("b", ("-b",), ("a", "b", "c")))
        self.assertFalse(is_tree(Book([("-a",), ("-b",), ("a", "b", "c")]), three))

    def test_a_clause_of_three_literals_is_a_leaf(self):
        rows = signs(["a", "b", "c"])
        tree = least_tree(Book(rows))
        self.assertEqual([order_of(Book(rows), tree), leaves_of(Book(rows), tree)], [3, 8])
        self.assertFalse(is_tree(Book(rows), ("a", "b", "c")))


class LeastTreeTest(unittest.TestCase):
    def test_least_trees_have_the_least_depth(self):
        for rows in BARRED:
            book = Book(rows)
            tree = least_tree(book)
            self.assertTrue(is_plan(rows, tree))
            self.assertEqual(order_of(book, tree), seen_depth(rows))
            self.assertEqual(plan_order(tree), least_depth(book))
            self.assertEqual(plan_order(tree), min(order for order, _ in plan_shapes(rows)))
            self.assertTrue(is_least_tree(book, tree))

    def test_is_least_of_all_trees(self):
        for rows in WHOLE + [APART, ring(["a", "b", "c"])]:
            book, least = Book(rows), seen_depth(rows)
            for plan in plans_of(rows):
                self.assertIs(is_least_tree(book, plan), plan_order(plan) == least)

    def test_books_that_can_be_filled(self):
        for rows in OPEN[::9]:
            book = Book(rows)
            for function, more in [(least_tree, []), (fewest_leaves, []), (leaves_by_order, []), (fewest_at, [0]),
                                   (fewest_at, [5]), (tree_of_fewest, [0]), (tree_of_fewest, [5])]:
                with self.assertRaises(Filled) as seen:
                    function(book, *more)
                self.assertIs(seen.exception.value, book)
            for value in [None, (), *rows]:
                self.assertIs(is_least_tree(book, value), False)
                self.assertIs(is_tree_of_fewest(book, 4, value), False)

    def test_some_leaf_lies_at_most_the_order_deep(self):
        for rows in WHOLE:
            for plan in every_plan(rows):
                self.assertLessEqual(min(heights(Book(rows), plan)), plan_order(plan))


class RecordTest(unittest.TestCase):
    def test_records_of_trees(self):
        for rows in WHOLE + [APART, ring(["a", "b", "c"]), signs(["a", "b", "c"])]:
            book = Book(rows)
            for plan in plans_of(rows):
                record = record_of_tree(book, plan)
                self.assertEqual(record, record_plainly(plan))
                self.assertTrue(is_look(rows, record, plan_order(plan)))
                self.assertTrue(is_record(book, plan_order(plan), record))
                self.assertEqual(tree_of_record(book, record), plan)

    def test_trees_of_records(self):
        for rows in WHOLE:
            book = Book(rows)
            # Each tree is the tree of a record with its literals the other way round as well.
            for look in [look for plan in every_plan(rows)[:30] for look in looks_of(plan)]:
                tree = tree_of_record(book, look)
                self.assertEqual(tree, plan_plainly(look))
                self.assertTrue(is_plan(rows, tree))
                self.assertLessEqual(order_of(book, tree), depth_of_record(book, look))

    def test_records_that_are_returned(self):
        for rows in BARRED[::5]:
            book = Book(rows)
            for depth in range(seen_depth(rows), 5):
                record = record_of(book, depth)
                self.assertLessEqual(order_of(book, tree_of_record(book, record)), depth)

    def test_wrong_records(self):
        for value in [[], [("a", "b")], ("a",), None, [("a", [("a", "b")]), ("-a", "-b")], record_of(Book(TWO), 2)[1:]]:
            with self.assertRaises(InvalidLook) as seen:
                tree_of_record(Book(TWO), value)
            self.assertIs(seen.exception.value, value)


def looks_of(plan):
    """Records of which a tree is the tree: at each place either side may be tried."""
    if is_leaf(plan):
        return [[plan]]
    name, high, low = plan
    highs, lows = looks_of(high)[:4], looks_of(low)[:4]
    return ([[("-" + name, one), *other] for one in highs for other in lows]
            + [[(name, other), *one] for one in highs for other in lows])


class FewestTest(unittest.TestCase):
    def test_against_the_shapes_of_all_trees(self):
        for rows in BARRED:
            book, shapes = Book(rows), plan_shapes(rows)
            self.assertEqual(fewest_leaves(book), min(leaves for _, leaves in shapes))
            counts = {}
            for order in range(7):
                leaves = [leaves for least, leaves in shapes if least <= order]
                self.assertEqual(fewest_at(book, order), min(leaves, default=None))
                tree = tree_of_fewest(book, order)
                if leaves:
                    self.assertTrue(is_plan(rows, tree))
                    self.assertLessEqual(plan_order(tree), order)
                    self.assertEqual(plan_leaves(tree), min(leaves))
                    self.assertTrue(is_tree_of_fewest(book, order, tree))
                    if fewest_leaves(book) not in counts.values():
                        counts[order] = min(leaves)
                else:
                    self.assertIsNone(tree)
                    self.assertIs(is_tree_of_fewest(book, order, tree), False)
            self.assertEqual(list(leaves_by_order(book).items()), list(counts.items()))

    def test_fewer_leaves_may_want_a_greater_order_on_either_side(self):
        # With signs turned the side of the lesser order is the true one here, the false one there.
        beside = either(Book(APART), Book(signs(["x", "y"])), "z").clauses()
        for rows, names in [(APART, "abde"), (APART_BY_TWO, "abcde"), (APART_BY_THREE, "abcd"), (beside, "az")]:
            for many in range(2 ** len(names)):
                turned = [name for at, name in enumerate(names) if many >> at & 1]
                book = turned_book(Book(rows), turned)
                self.assertEqual(leaves_by_order(book), leaves_by_order(Book(rows)))
                for order in [*leaves_by_order(book), 60]:
                    tree = tree_of_fewest(book, order)
                    self.assertTrue(is_plan(book.clauses(), tree) and plan_order(tree) <= order)
                    self.assertEqual(plan_leaves(tree), fewest_at(Book(rows), order))

    def test_fewer_leaves_may_want_a_greater_order(self):
        book = Book(APART)
        self.assertEqual(leaves_by_order(book), {1: 5, 2: 4})
        self.assertEqual([plan_leaves(tree_of_fewest(book, order)) for order in [1, 2, 3, 60]], [5, 4, 4, 4])
        self.assertEqual(leaves_by_order(Book(APART_BY_TWO)), {1: 6, 2: 4})
        self.assertEqual(leaves_by_order(Book(APART_BY_THREE)), {1: 7, 2: 4})
        beside = either(book, Book(signs(["x", "y"])), "z")
        self.assertEqual(leaves_by_order(beside), {2: 9, 3: 8})
        self.assertEqual([plan_leaves(tree_of_fewest(beside, order)) for order in [2, 3]], [9, 8])
        self.assertIsNone(tree_of_fewest(beside, 1))

    def test_edges(self):
        self.assertEqual([fewest_leaves(Book([()])), fewest_at(Book([()]), 0), fewest_at(Book([()]), 60)], [1, 1, 1])
        self.assertEqual([tree_of_fewest(Book([()]), 0), leaves_by_order(Book([()]))], [(), {0: 1}])
        self.assertEqual(fewest_at(Book(TWO), 1), None)
        self.assertEqual([fewest_leaves(Book(ring(list("abcde")))), fewest_leaves(Book(chain(list("abcde"))))], [10, 6])
        self.assertEqual([fewest_leaves(Book(copies(2, 2))), fewest_leaves(Book(signs(list("abcd"))))], [10, 16])

    def test_is_tree_of_fewest_of_all_trees(self):
        # Of a chain of three variables the trees of order 2 have as few leaves as those of order 1.
        for rows in WHOLE + [APART, chain(["a", "b", "c"])]:
            book, shapes = Book(rows), plan_shapes(rows)
            for plan in plans_of(rows):
                for order in range(4):
                    least = min([leaves for least, leaves in shapes if least <= order], default=None)
                    right = plan_order(plan) <= order and plan_leaves(plan) == least
                    self.assertIs(is_tree_of_fewest(book, order, plan), right)

    def test_wrong_numbers(self):
        for function, more in [(fewest_at, []), (tree_of_fewest, []), (is_tree_of_fewest, [None])]:
            for order in [-1, True, False, None, "1", [1], (1,)]:
                for rows in [TWO, [("a",)]]:
                    with self.assertRaises(InvalidNumber) as seen:
                        function(Book(rows), order, *more)
                    self.assertIs(seen.exception.value, order)
        with self.assertRaises(InvalidBook):
            fewest_at(None, -1)


class WayTest(unittest.TestCase):
    def test_leaves_and_ways_of_all_part_fillings_of_all_variables(self):
        for rows in WHOLE + [APART, ring(["a", "b", "c"]), signs(["a", "b", "c"])]:
            book = Book(rows)
            for plan in plans_of(rows)[:200]:
                for values in assignments(names_in(rows)):
                    asked, leaf = [], plan
                    while not is_leaf(leaf):
                        asked.append(leaf[0])
                        leaf = leaf[1] if values[leaf[0]] else leaf[2]
                    part = row(*[name if values[name] else "-" + name for name in values])
                    self.assertEqual(leaf_at(book, plan, part), leaf)
                    self.assertEqual(asked_on(book, plan, part), asked)

    def test_ways_to_leaves(self):
        for rows in WHOLE + [APART, ring(["a", "b", "c"]), signs(["a", "b", "c"])]:
            book = Book(rows)
            for plan in plans_of(rows)[:200]:
                ways = ways_to_leaves(book, plan)
                self.assertEqual(ways, ways_plainly(plan))
                self.assertEqual(heights(book, plan), [len(way) for way in ways])
                for values in assignments(names_in(rows)):
                    whole = [name if values[name] else "-" + name for name in values]
                    self.assertEqual(sum(set(way) <= set(whole) for way in ways), 1)
        late = ("b", ("a", ("-a",), ("a",)), ("a", ("-a",), ("a",)))
        self.assertEqual(ways_to_leaves(Book([("a",), ("-a",), ("b",)]), late),
                         [("a", "b"), ("-a", "b"), ("-b", "a"), ("-a", "-b")])

    def test_wrong_part_fillings(self):
        for part in [(), ("a",), ("b", "a"), ["a", "b"], ("a", "b", "c"), ("a", "c"), None, ("-a", "a"), "ab", (1, 2)]:
            for function in [leaf_at, asked_on]:
                with self.assertRaises(InvalidFilling) as seen:
                    function(Book(TWO), least_tree(Book(TWO)), part)
                self.assertIs(seen.exception.value, part)
        with self.assertRaises(InvalidTree):
            leaf_at(Book(TWO), (), ())
        self.assertEqual([leaf_at(Book([()]), (), ()), asked_on(Book([()]), (), ())], [(), []])


class BookOfTreeTest(unittest.TestCase):
    def test_all_forms_of_trees(self):
        for places in range(6):
            for form in tree_forms(places, ["c", "a", "e", "b", "d"]):
                book = book_of_tree(form)
                clauses = [row(*[against(literal) for literal in way]) for way in ways_plainly(form)]
                self.assertEqual(book.clauses(), sorted(clauses))
                self.assertEqual(least_depth(book), plan_order(form))
                self.assertEqual(fewest_leaves(book), plan_leaves(form))

    def test_leaves_may_be_any_clauses(self):
        told = book_of_tree(("a", (), ("b", (), ())))
        for leaf in [("a",), ("-z", "b"), ("x", "y", "z"), ("-a", "-b", "-c", "-d")]:
            self.assertEqual(book_of_tree(("a", leaf, ("b", (), leaf))), told)
            self.assertEqual(book_of_tree(leaf), Book([()]))

    def test_a_variable_at_two_places_and_other_objects(self):
        for tree in [("a", ("a", (), ()), ()), ("a", ("b", (), ()), ("b", (), ())), ("a", (), ("b", (), ("a", (), ()))),
                     ("a", (), ["b"]), ("a", (), ("b", ())), ("A", (), ()), ("-a", (), ()), ["a", (), ()], None, "a",
                     ("a", (), ("b", "a")), ("a", (), None), ("a", (), (), ()), (("a",), (), ()), ("a", ((),), ()),
                     ("a", ("a", "-a"), ()), ("a", ("b", "c", ()), ())]:
            with self.assertRaises(InvalidTree) as seen:
                book_of_tree(tree)
            self.assertIs(seen.exception.value, tree)


if __name__ == "__main__":
    unittest.main()
