"""The examples of the document, as they stand there: what stands behind # is what the line above it gives."""

import ast
import unittest

from tests.helper import shown

ERRORS = """\
from lookdepths.errors import InvalidClause, LookError, NothingToUndo
[issubclass(InvalidClause, LookError), issubclass(NothingToUndo, ValueError), InvalidClause(("a", "a")).value, InvalidClause().value]
# [True, True, ('a', 'a'), None]
"""

CLAUSES = """\
from lookdepths.clauses import clause_of, common, contrary, is_clause, is_within, meeting, put_together, renamed, turned, united, variable_of, variables_in
[contrary("a"), contrary("-a"), variable_of("-a"), clause_of(["b", "-a", "b"]), is_clause(("-a", "a")), is_clause(("-a", "b")), variables_in(("-c", "a"))]
# ['-a', 'a', 'a', ('-a', 'b'), False, True, ['a', 'c']]
[is_within(("b",), ("-a", "b")), common(("-a", "b"), ("a", "b")), united(("a",), ("-b", "a")), meeting(("-a", "b"), ("a", "b")), meeting(("-a", "-b"), ("a", "b"))]
# [True, ('b',), ('-b', 'a'), 'a', None]
[put_together(("-a", "b"), ("a", "c")), put_together(("a",), ("-a",)), turned(("-a", "b"), ["a", "c"]), renamed(("-a", "b"), {"a": "z", "b": "y"})]
# [('b', 'c'), (), ('a', 'b'), ('-z', 'y')]
"""

BOOKS = """\
from lookdepths.books import Book, all_parts, broken, either, is_filling, is_part, kept, pieces, rest, set_also, shrunk, turned_book
book = Book([("a", "b"), ("-a", "c"), ("-c",), ("-a", "b", "c")])
[book.clauses(), book.variables(), is_part(book, ("-a", "b")), is_part(book, ("b", "a")), len(all_parts(book)), all_parts(book)[:4]]
# [[('-a', 'b', 'c'), ('-a', 'c'), ('-c',), ('a', 'b')], ['a', 'b', 'c'], True, False, 27, [(), ('-a',), ('-b',), ('-c',)]]
[rest(book, ("a",)).clauses(), rest(book, ("-c", "a")).clauses(), broken(book, ("-c", "a")), kept(book, ("-c", "a")), set_also(book, ("b",), "-a")]
# [[('-c',), ('b', 'c'), ('c',)], [(), ('b',)], [('-a', 'c')], [('-c',), ('a', 'b')], ('-a', 'b')]
[shrunk(book).clauses(), is_filling(book, ("-a", "-c", "b")), is_filling(book, ("-a", "b")), turned_book(book, ["c"]).clauses()[-1]]
# [[('-a', 'c'), ('-c',), ('a', 'b')], True, False, ('c',)]
[piece.clauses() for piece in pieces(Book([("-d", "e"), ("a", "b"), ("-b", "c"), ()]))]
# [[()], [('-b', 'c'), ('a', 'b')], [('-d', 'e')]]
either(Book([("a",), ("-a",)]), Book([("b",), ("-b",)]), "c").clauses()
# [('-a', 'c'), ('-b', '-c'), ('-c', 'b'), ('a', 'c')]
"""

LOOKS = """\
from lookdepths.books import Book
from lookdepths.looks import clauses_in, depth_at, depths_below, forced, forced_by, is_record, least_depth, left_by, shown_literals, shows
two, chain = Book([("a", "b"), ("-b", "a"), ("-a", "b"), ("-a", "-b")]), Book([("a",), ("-a", "b"), ("-b", "c"), ("-c",)])
ring = Book([("-b", "a"), ("-a", "b"), ("-c", "b"), ("-b", "c"), ("a", "c"), ("-a", "-c")])
[[shows(ring, depth) for depth in [0, 1, 2]], least_depth(chain), depth_at(ring, ("a",)), depths_below(two)]
# [[False, False, True], 1, 1, {'-a': 1, '-b': 1, 'a': 1, 'b': 1}]
half = Book([("a", "b"), ("-b", "a"), ("-a", "c", "d")])
[forced(half, 1), forced(half, 2), left_by(half, 2).clauses(), shown_literals(half, 1)]
# [(), ('a',), [('c', 'd')], ['-a']]
[forced_by(chain, 1, ["a", "b", "c"]), forced_by(chain, 1, ["c", "b", "a"])]
# [['a', 'b', '-c'], ['-c', '-b', '-a']]
record = [("a", [("b", [("a", "b")]), ("-b", "a")]), ("b", [("-a", "b")]), ("-a", "-b")]
[is_record(two, 2, record), is_record(two, 1, record), clauses_in(two, record)]
# [True, False, 4]
"""

DEPTHS = """\
from lookdepths.books import Book
from lookdepths.depths import closing, deepest, depth_of, follows, is_closed, is_closing, least_following, seen_at, unseen
free = Book([("a", "b", "c"), ("-a", "b"), ("-b", "c")])
[least_following(free), depth_of(free), seen_at(free, ("c",)), follows(free, ("a", "b")), is_closed(free, 0), unseen(free, 0)]
# [[('-a', 'b'), ('c',)], 1, 1, False, False, [('c',)]]
hidden = Book([("a", "b", "d"), ("-b", "a", "d"), ("-a", "b", "d"), ("-a", "-b", "d")])
[least_following(hidden), depth_of(hidden), deepest(hidden), depth_of(Book([("a",)]))]
# [[('d',)], 2, ('-d',), 0]
[closing(Book([("a",), ("-a",)])), is_closing(Book([("a",), ("-a",)]), 1, {(): ("a", ("-a",), ("a",))}), is_closing(free, 0, {}), closing(free)[("-a", "b")]]
# [{(): ('a', ('-a',), ('a',))}, True, False, ()]
"""

TREES = """\
from lookdepths.books import Book
from lookdepths.trees import book_of_tree, fewest_at, fewest_leaves, heights, is_least_tree, is_tree, leaf_at, leaves_by_order, leaves_of, order_of, record_of_tree, tree_of_record
two = Book([("a", "b"), ("-b", "a"), ("-a", "b"), ("-a", "-b")])
record = [("a", [("b", [("a", "b")]), ("-b", "a")]), ("b", [("-a", "b")]), ("-a", "-b")]
tree = tree_of_record(two, record)
[tree, order_of(two, tree), leaves_of(two, tree), is_least_tree(two, tree), heights(two, tree)]
# [('a', ('b', ('-a', '-b'), ('-a', 'b')), ('b', ('-b', 'a'), ('a', 'b'))), 2, 4, True, [2, 2, 2, 2]]
[record_of_tree(two, tree), leaf_at(two, tree, ("-b", "a"))]
# [[('-a', [('-b', [('-a', '-b')]), ('-a', 'b')]), ('-b', [('-b', 'a')]), ('a', 'b')], ('-a', 'b')]
apart = Book([("-a", "-d"), ("-b",), ("-d", "a"), ("-e", "b"), ("-e", "d"), ("d", "e")])
[fewest_leaves(apart), fewest_at(apart, 0), leaves_by_order(apart), book_of_tree(("a", ("b", (), ()), ("c", (), ("d", (), ())))).clauses()]
# [4, None, {1: 5, 2: 4}, [('-a', '-b'), ('-a', 'b'), ('-c', 'a'), ('-d', 'a', 'c'), ('a', 'c', 'd')]]
"""

OPPONENTS = """\
from lookdepths.books import Book
from lookdepths.opponents import are_points, family_for, greatest_points, is_family_for, played, points_of, said
two = Book([("a", "b"), ("-b", "a"), ("-a", "b"), ("-a", "-b")])
family = greatest_points(two)
[family, points_of(two, family), said(two, family, (), "a"), is_family_for(two, 2, family)]
# [{(): 2, ('-a',): 1, ('-b',): 1, ('a',): 1, ('b',): 1}, 2, None, True]
tree = ("a", ("b", ("-a", "-b"), ("-a", "b")), ("b", ("-b", "a"), ("a", "b")))
[played(two, family, tree), are_points(two, {(): 2, ("a",): 1}), are_points(two, {(): 1})]
# [([('a', True, True), ('b', True, True)], 2), False, True]
"""


class ExamplesTest(unittest.TestCase):
    def check(self, block):
        names = {}
        last = None
        for line in block.splitlines():
            if line.startswith("# "):
                self.assertEqual(shown(eval(last, names)), shown(eval(line[2:], {})), last)
            elif not isinstance(ast.parse(line).body[0], ast.Expr):
                exec(line, names)
            last = line

    def test_errors(self):
        self.check(ERRORS)

    def test_clauses(self):
        self.check(CLAUSES)

    def test_books(self):
        self.check(BOOKS)

    def test_looks(self):
        self.check(LOOKS)

    def test_depths(self):
        self.check(DEPTHS)

    def test_trees(self):
        self.check(TREES)

    def test_opponents(self):
        self.check(OPPONENTS)


if __name__ == "__main__":
    unittest.main()
