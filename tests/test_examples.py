"""The examples of the document, as they stand there: what stands behind # is what the line above it gives."""

import ast
import unittest

from tests.helper import shown

ERRORS = """\
from lookdepths.errors import InvalidClause, LookError, NothingToUndo
[issubclass(InvalidClause, LookError), issubclass(NothingToUndo, ValueError), InvalidClause(("a", "a")).value, InvalidClause().value]
# [True, True, ('a', 'a'), None]
"""

CLAUSES = """\
from lookdepths.clauses import clause_of, common, contrary, is_clause, is_within, meeting, put_together, renamed, turned, united, variable_of, variables_in
[contrary("a"), contrary("-a"), variable_of("-a"), clause_of(["b", "-a", "b"]), is_clause(("-a", "a")), is_clause(("-a", "b")), variables_in(("-c", "a"))]
# ['-a', 'a', 'a', ('-a', 'b'), False, True, ['a', 'c']]
[is_within(("b",), ("-a", "b")), common(("-a", "b"), ("a", "b")), united(("a",), ("-b", "a")), meeting(("-a", "b"), ("a", "b")), meeting(("-a", "-b"), ("a", "b"))]
# [True, ('b',), ('-b', 'a'), 'a', None]
[put_together(("-a", "b"), ("a", "c")), put_together(("a",), ("-a",)), turned(("-a", "b"), ["a", "c"]), renamed(("-a", "b"), {"a": "z", "b": "y"})]
# [('b', 'c'), (), ('a', 'b'), ('-z', 'y')]
"""

BOOKS = """\
from lookdepths.books import Book, all_parts, broken, either, is_filling, is_part, kept, pieces, rest, set_also, shrunk, turned_book
book = Book([("a", "b"), ("-a", "c"), ("-c",), ("-a", "b", "c")])
[book.clauses(), book.variables(), is_part(book, ("-a", "b")), is_part(book, ("b", "a")), len(all_parts(book)), all_parts(book)[:4]]
# [[('-a', 'b', 'c'), ('-a', 'c'), ('-c',), ('a', 'b')], ['a', 'b', 'c'], True, False, 27, [(), ('-a',), ('-b',), ('-c',)]]
[rest(book, ("a",)).clauses(), rest(book, ("-c", "a")).clauses(), broken(book, ("-c", "a")), kept(book, ("-c", "a")), set_also(book, ("b",), "-a")]
# [[('-c',), ('b', 'c'), ('c',)], [(), ('b',)], [('-a', 'c')], [('-c',), ('a', 'b')], ('-a', 'b')]
[shrunk(book).clauses(), is_filling(book, ("-a", "-c", "b")), is_filling(book, ("-a", "b")), turned_book(book, ["c"]).clauses()[-1]]
# [[('-a', 'c'), ('-c',), ('a', 'b')], True, False, ('c',)]
[piece.clauses() for piece in pieces(Book([("-d", "e"), ("a", "b"), ("-b", "c"), ()]))]
# [[()], [('-b', 'c'), ('a', 'b')], [('-d', 'e')]]
either(Book([("a",), ("-a",)]), Book([("b",), ("-b",)]), "c").clauses()
# [('-a', 'c'), ('-b', '-c'), ('-c', 'b'), ('a', 'c')]
"""

LOOKS = """\
from lookdepths.books import Book
from lookdepths.looks import clauses_in, depth_at, depths_below, forced, forced_by, is_record, least_depth, left_by, shown_literals, shows
two, chain = Book([("a", "b"), ("-b", "a"), ("-a", "b"), ("-a", "-b")]), Book([("a",), ("-a", "b"), ("-b", "c"), ("-c",)])
ring = Book([("-b", "a"), ("-a", "b"), ("-c", "b"), ("-b", "c"), ("a", "c"), ("-a", "-c")])
[[shows(ring, depth) for depth in [0, 1, 2]], least_depth(chain), depth_at(ring, ("a",)), depths_below(two)]
# [[False, False, True], 1, 1, {'-a': 1, '-b': 1, 'a': 1, 'b': 1}]
half = Book([("a", "b"), ("-b", "a"), ("-a", "c", "d")])
[forced(half, 1), forced(half, 2), left_by(half, 2).clauses(), shown_literals(half, 1)]
# [(), ('a',), [('c', 'd')], ['-a']]
[forced_by(chain, 1, ["a", "b", "c"]), forced_by(chain, 1, ["c", "b", "a"])]
# [['a', 'b', '-c'], ['-c', '-b', '-a']]
record = [("a", [("b", [("a", "b")]), ("-b", "a")]), ("b", [("-a", "b")]), ("-a", "-b")]
[is_record(two, 2, record), is_record(two, 1, record), clauses_in(two, record)]
# [True, False, 4]
"""

DEPTHS = """\
from lookdepths.books import Book
from lookdepths.depths import closing, deepest, depth_of, follows, is_closed, is_closing, least_following, seen_at, unseen
free = Book([("a", "b", "c"), ("-a", "b"), ("-b", "c")])
[least_following(free), depth_of(free), seen_at(free, ("c",)), follows(free, ("a", "b")), is_closed(free, 0), unseen(free, 0)]
# [[('-a', 'b'), ('c',)], 1, 1, False, False, [('c',)]]
hidden = Book([("a", "b", "d"), ("-b", "a", "d"), ("-a", "b", "d"), ("-a", "-b", "d")])
[least_following(hidden), depth_of(hidden), deepest(hidden), depth_of(Book([("a",)]))]
# [[('d',)], 2, ('-d',), 0]
[closing(Book([("a",), ("-a",)])), is_closing(Book([("a",), ("-a",)]), 1, {(): ("a", ("-a",), ("a",))}), is_closing(free, 0, {}), closing(free)[("-a", "b")]]
# [{(): ('a', ('-a',), ('a',))}, True, False, ()]
"""

TREES = """\
from lookdepths.books import Book
from lookdepths.trees import book_of_tree, fewest_at, fewest_leaves, heights, is_least_tree, is_tree, leaf_at, leaves_by_order, leaves_of, order_of, record_of_tree, tree_of_record
two = Book([("a", "b"), ("-b", "a"), ("-a", "b"), ("-a", "-b")])
record = [("a", [("b", [("a", "b")]), ("-b", "a")]), ("b", [("-a", "b")]), ("-a", "-b")]
tree = tree_of_record(two, record)
[tree, order_of(two, tree), leaves_of(two, tree), is_least_tree(two, tree), heights(two, tree)]
# [('a', ('b', ('-a', '-b'), ('-a', 'b')), ('b', ('-b', 'a'), ('a', 'b'))), 2, 4, True, [2, 2, 2, 2]]
[record_of_tree(two, tree), leaf_at(two, tree, ("-b", "a"))]
# [[('-a', [('-b', [('-a', '-b')]), ('-a', 'b')]), ('-b', [('-b', 'a')]), ('a', 'b')], ('-a', 'b')]
apart = Book([("-a", "-d"), ("-b",), ("-d", "a"), ("-e", "b"), ("-e", "d"), ("d", "e")])
[fewest_leaves(apart), fewest_at(apart, 0), leaves_by_order(apart), book_of_tree(("a", ("b", (), ()), ("c", (), ("d", (), ())))).clauses()]
# [4, None, {1: 5, 2: 4}, [('-a', '-b'), ('-a', 'b'), ('-c', 'a'), ('-d', 'a', 'c'), ('a', 'c', 'd')]]
"""

OPPONENTS = """\
from lookdepths.books import Book
from lookdepths.opponents import are_points, family_for, greatest_points, is_family_for, played, points_of, said
two = Book([("a", "b"), ("-b", "a"), ("-a", "b"), ("-a", "-b")])
family = greatest_points(two)
[family, points_of(two, family), said(two, family, (), "a"), is_family_for(two, 2, family)]
# [{(): 2, ('-a',): 1, ('-b',): 1, ('a',): 1, ('b',): 1}, 2, None, True]
tree = ("a", ("b", ("-a", "-b"), ("-a", "b")), ("b", ("-b", "a"), ("a", "b")))
[played(two, family, tree), are_points(two, {(): 2, ("a",): 1}), are_points(two, {(): 1})]
# [([('a', True, True), ('b', True, True)], 2), False, True]
"""

JOINS = """\
from lookdepths.books import Book
from lookdepths.joins import broad_family, clauses_by, closed_family, is_ending, least_one_sided, least_width, made_with, makes, partners, points_of_broad, width_of
from lookdepths.looks import least_depth
two = Book([("a", "b"), ("-b", "a"), ("-a", "b"), ("-a", "-b")])
line = [("a", "b"), ("-b", "a"), (0, 1, "b"), ("-a", "b"), ("-a", "-b"), (3, 4, "b"), (2, 5, "a")]
[partners(two, ("a", "b")), made_with(two, ("a", "b")), clauses_by(two, line)[2:], width_of(two, line), is_ending(two, 1, line)]
# [[('-a', 'b'), ('-b', 'a')], [('a',), ('b',)], [('a',), ('-a', 'b'), ('-a', '-b'), ('-a',), ()], 1, True]
[least_width(two), least_one_sided(two), closed_family(two, 0), len(makes(two, 1))]
# [1, 2, [(), ('-a',), ('-b',), ('a',), ('b',)], 9]
ring = Book([("-b", "a"), ("-a", "b"), ("-c", "b"), ("-b", "c"), ("a", "c"), ("-a", "-c")])
[least_width(ring), least_one_sided(ring), len(closed_family(ring, 1)), broad_family(ring, 1) == closed_family(ring, 1), points_of_broad(two, 1)]
# [2, 2, 13, True, {(): 2, ('-a',): 1, ('-b',): 1, ('a',): 1, ('b',): 1}]
alike = Book([("a", "c"), ("-a", "-c"), ("b", "d"), ("-b", "-d"), ("-c", "-d", "a", "b"), ("-b", "-c", "a", "d"), ("-a", "-d", "b", "c"), ("-a", "-b", "c", "d")])
[least_depth(alike), least_one_sided(alike), least_width(alike), len(broad_family(alike, 1))]
# [3, 2, 3, 45]
lone = Book([("a",)])
[broad_family(lone, 1), closed_family(lone, 1), points_of_broad(lone, 1), points_of_broad(ring, 1)]
# [[('a',)], [(), ('a',)], {(): 2, ('a',): 2}, {(): 2, ('-a',): 1, ('-b',): 1, ('-c',): 1, ('a',): 1, ('b',): 1, ('c',): 1}]
"""

FILLINGS = """\
from lookdepths.books import Book
from lookdepths.fillings import any_trap, fillings_of, first_way, goes_through, is_way, looks_used, many_fillings, may_set, sure_depth, sure_literals, traps
hidden = Book([("a", "b", "d"), ("-b", "a", "d"), ("-a", "b", "d"), ("-a", "-b", "d")])
[many_fillings(hidden), sure_literals(hidden), may_set(hidden, (), 1) == ["-a", "-b", "-d", "a", "b", "d"], may_set(hidden, ("-d",), 1), may_set(hidden, (), 2)]
# [4, ['d'], True, [], ['-a', '-b', 'a', 'b', 'd']]
[traps(hidden, 1), goes_through(hidden, 1), goes_through(hidden, 2), sure_depth(hidden), first_way(hidden, (), 2), is_way(hidden, (), 1, ["-d"])]
# [[('-d',)], False, True, 3, ['-a', '-b', 'd'], True]
free = Book([("a", "b", "c"), ("-a", "b"), ("-b", "c")])
[fillings_of(free), any_trap(free, 0) is None, first_way(free, (), 1), looks_used(free, (), 1), may_set(Book([("a", "b")]), ("a",), 0)]
# [[('-a', '-b', 'c'), ('-a', 'b', 'c'), ('a', 'b', 'c')], False, ['-a', '-b', 'c'], [5, 3, 1], ['-b', 'b']]
"""

MAKES = """\
from lookdepths.books import Book
from lookdepths.makes import book_of, depth_told, is_short, is_single, leaves_told, widths_told
[book_of(("signs", 2)).clauses(), book_of(("chain", 3)).clauses()]
# [[('-a', '-b'), ('-a', 'b'), ('-b', 'a'), ('a', 'b')], [('-a', 'b'), ('-b', 'c'), ('-c',), ('a',)]]
[book_of(("ring", 3)).clauses(), book_of(("guests", 2, 1)).clauses()]
# [[('-a', '-c'), ('-a', 'b'), ('-b', 'a'), ('-b', 'c'), ('-c', 'b'), ('a', 'c')], [('-aa', '-ba'), ('aa',), ('ba',)]]
[depth_told(("signs", 4)), leaves_told(("ring", 5)), widths_told(("signs", 3)), depth_told(("guests", 4, 3)), is_short(book_of(("ring", 3))), is_single(book_of(("chain", 3)))]
# [4, 10, (2, 3), 3, True, True]
[depth_told(("copies", 2, 2)), leaves_told(("copies", 2, 2)), widths_told(("copies", 2, 2)), book_of(("copies", 1, 3)).clauses()]
# [3, 10, (3, 2), [('-aa', '-ab', '-ac'), ('-aa', 'ab'), ('-ab', 'ac'), ('-ac', 'aa'), ('aa', 'ab', 'ac')]]
"""

PARTS = """\
from lookdepths.books import Book
from lookdepths.makes import book_of
from lookdepths.parts import any_core, cores, depth_beside, depth_by_pieces, depths_of_values, first_places, is_core, keeping_literals, splitting_variables
signs = book_of(("signs", 2))
more = Book(signs.clauses() + [("a",)])
[cores(more), is_core(more, signs.clauses()), any_core(Book([("a",)]))]
# [[[('-a', '-b'), ('-a', 'b'), ('-b', 'a'), ('a', 'b')], [('-a', '-b'), ('-a', 'b'), ('a',)]], True, None]
[splitting_variables(signs), keeping_literals(signs), first_places(signs), depths_of_values(more, "a"), keeping_literals(more)]
# [['a', 'b'], [], ['a', 'b'], (1, 0), ['-b', 'a', 'b']]
[depth_beside(signs, Book([("x",), ("-x",)])), depth_beside(signs, Book([("x",)])), depth_by_pieces(Book(signs.clauses() + [("x",), ("-x",)]))]
# [1, 2, 1]
"""

LEMMAS = """\
from lookdepths.lemmas import best_lemmas, fewest_lemmas, gain_of, gains, is_row, row_of_tree
from lookdepths.makes import book_of
ring = book_of(("ring", 3))
[gain_of(ring, ("a",)), gain_of(ring, ("a", "b")), best_lemmas(ring, 1), len(gains(ring, 1)), gains(ring, 1)[()]]
# [1, 0, [('-a',), ('-b',), ('-c',), ('a',), ('b',), ('c',)], 7, 2]
tree = ("a", ("b", ("-a", "-b"), ("-a", "b")), ("b", ("-b", "a"), ("a", "b")))
[row_of_tree(book_of(("signs", 2)), tree), is_row(book_of(("signs", 2)), 1, [("-a",), ()]), is_row(book_of(("signs", 2)), 1, [()]), fewest_lemmas(book_of(("signs", 2)), 1), fewest_lemmas(ring, 2)]
# [[('-a',), ('a',), ()], True, False, 2, 1]
"""

DESK = """\
from lookdepths.books import Book
from lookdepths.desk import Desk, replayed
desk, two = Desk(), Book([("a", "b"), ("-b", "a"), ("-a", "b"), ("-a", "-b")])
[desk.put(two), desk.least_there(0), desk.is_shown(0, 1), desk.choose(0, "a"), desk.rest_there(0).clauses(), desk.least_there(0), desk.shown_spots(1)]
# [0, 2, False, None, [('-b',), ('b',)], 1, [0]]
[desk.put(Book([("c",), ("-c", "d"), ("d", "e")])), desk.force(1, 1), desk.set_there(1), desk.rest_there(1).clauses(), desk.least_there(1)]
# [1, ['c', 'd'], ('c', 'd'), [], None]
[desk.back(0, "a"), desk.drop(0, ("-a", "-b")), desk.force(0, 2), desk.lay(0, 1), desk.set_there(0), desk.undo(), desk.spots(), len(desk.log())]
# [None, None, ['a', 'b'], None, ('a', 'b', 'c', 'd'), None, [0, 1], 7]
replayed(Desk(), desk.log()).set_there(0)
# ('a', 'b')
"""

SCRIPTS = r"""from lookdepths.books import Book
from lookdepths.desk import Desk
from lookdepths.scripts import end_of, play, read_script, script_text, shortened
book = Book([("a", "b"), ("-b", "a")])
day = [("put", book), ("force", 0, 1), ("least_there", 0), ("try", [("add", 0, ("-a",)), ("is_shown", 0, 1)]), ("force", 0, 2), ("choose", 0, "c"), ("choose", 0, "b"), ("undo",)]
play(Desk(), day)
# [('put', 0), ('refused', 'Refused'), ('told', None), ('tried', [('done',), ('told', True)]), ('told', ['a']), ('refused', 'InvalidLiteral'), ('done',), ('done',)]
[end_of(day) == {0: (book.clauses(), ("a",))}, shortened(day) == [day[0], day[4], day[6], day[7]], read_script(script_text(day)) == day]
# [True, True, True]
script_text([("put", Book([("-b", "a"), ()])), ("add", 0, ()), ("add", 0, ("-a",)), ("choose", 10, "-a"), ("try", [("undo",)])])
# 'put\n  ()\n  -b a\nend\nadd 0 ()\nadd 0 -a\nchoose 10 -a\ntry\n  undo\nend'
"""

PAPERS = r"""from lookdepths.books import Book
from lookdepths.papers import book_text, derivation_text, look_text, points_text, read_book, read_look, read_points, read_tree, tree_text
two = Book([("a", "b"), ("-b", "a"), ("-a", "b"), ("-a", "-b")])
[book_text(two), read_book("()\n-b a") == Book([("-b", "a"), ()]), book_text(Book([]))]
# ['-a -b\n-a b\n-b a\na b', True, '']
tree = ("a", ("b", ("-a", "-b"), ("-a", "b")), ("a",))
[tree_text(tree), read_tree(tree_text(tree)) == tree, tree_text(())]
# ['? a\n  ? b\n    -a -b\n    -a b\n  a', True, '()']
[points_text({("a",): 1, (): 2}), read_points("(): 2\na: 1"), derivation_text([("a", "b"), ("-a",), (0, 1, "a")])]
# ['(): 2\na: 1', {(): 2, ('a',): 1}, 'a b\n-a\n0 1 a']
[look_text([("a", [("b",)]), ("-a", "b")]), read_look("a\n  ! b\n! -a b")]
# ['a\n  ! b\n! -a b', [('a', [('b',)]), ('-a', 'b')]]
"""


class ExamplesTest(unittest.TestCase):
    def check(self, block):
        names = {}
        last = None
        for line in block.splitlines():
            if line.startswith("# "):
                self.assertEqual(shown(eval(last, names)), shown(eval(line[2:], {})), last)
            elif not isinstance(ast.parse(line).body[0], ast.Expr):
                exec(line, names)
            last = line

    def test_errors(self):
        self.check(ERRORS)

    def test_clauses(self):
        self.check(CLAUSES)

    def test_books(self):
        self.check(BOOKS)

    def test_looks(self):
        self.check(LOOKS)

    def test_depths(self):
        self.check(DEPTHS)

    def test_trees(self):
        self.check(TREES)

    def test_opponents(self):
        self.check(OPPONENTS)

    def test_joins(self):
        self.check(JOINS)

    def test_fillings(self):
        self.check(FILLINGS)

    def test_makes(self):
        self.check(MAKES)

    def test_parts(self):
        self.check(PARTS)

    def test_lemmas(self):
        self.check(LEMMAS)

    def test_desk(self):
        self.check(DESK)

    def test_scripts(self):
        self.check(SCRIPTS)

    def test_papers(self):
        self.check(PAPERS)


if __name__ == "__main__":
    unittest.main()
