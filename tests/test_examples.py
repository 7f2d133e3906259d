"""The examples of the document, as they stand there: what stands behind # is what the line above it gives."""

import unittest

from tests.helper import shown

ERRORS = """\
from lookdepths.errors import InvalidClause, LookError, NothingToUndo
[issubclass(InvalidClause, LookError), issubclass(NothingToUndo, ValueError), InvalidClause(("a", "a")).value, InvalidClause().value]
# [True, True, ('a', 'a'), None]
"""

CLAUSES = """\
from lookdepths.clauses import clause_of, common, contrary, is_clause, is_within, meeting, put_together, renamed, turned, united, variable_of, variables_in
[contrary("a"), contrary("-a"), variable_of("-a"), clause_of(["b", "-a", "b"]), is_clause(("-a", "a")), is_clause(("-a", "b")), variables_in(("-c", "a"))]
# ['-a', 'a', 'a', ('-a', 'b'), False, True, ['a', 'c']]
[is_within(("b",), ("-a", "b")), common(("-a", "b"), ("a", "b")), united(("a",), ("-b", "a")), meeting(("-a", "b"), ("a", "b")), meeting(("-a", "-b"), ("a", "b"))]
# [True, ('b',), ('-b', 'a'), 'a', None]
[put_together(("-a", "b"), ("a", "c")), put_together(("a",), ("-a",)), turned(("-a", "b"), ["a", "c"]), renamed(("-a", "b"), {"a": "z", "b": "y"})]
# [('b', 'c'), (), ('a', 'b'), ('-z', 'y')]
"""

BOOKS = """\
from lookdepths.books import Book, all_parts, broken, either, is_filling, is_part, kept, pieces, rest, set_also, shrunk, turned_book
book = Book([("a", "b"), ("-a", "c"), ("-c",), ("-a", "b", "c")])
[book.clauses(), book.variables(), is_part(book, ("-a", "b")), is_part(book, ("b", "a")), len(all_parts(book)), all_parts(book)[:4]]
# [[('-a', 'b', 'c'), ('-a', 'c'), ('-c',), ('a', 'b')], ['a', 'b', 'c'], True, False, 27, [(), ('-a',), ('-b',), ('-c',)]]
[rest(book, ("a",)).clauses(), rest(book, ("-c", "a")).clauses(), broken(book, ("-c", "a")), kept(book, ("-c", "a")), set_also(book, ("b",), "-a")]
# [[('-c',), ('b', 'c'), ('c',)], [(), ('b',)], [('-a', 'c')], [('-c',), ('a', 'b')], ('-a', 'b')]
[shrunk(book).clauses(), is_filling(book, ("-a", "-c", "b")), is_filling(book, ("-a", "b")), turned_book(book, ["c"]).clauses()[-1]]
# [[('-a', 'c'), ('-c',), ('a', 'b')], True, False, ('c',)]
[piece.clauses() for piece in pieces(Book([("-d", "e"), ("a", "b"), ("-b", "c"), ()]))]
# [[()], [('-b', 'c'), ('a', 'b')], [('-d', 'e')]]
either(Book([("a",), ("-a",)]), Book([("b",), ("-b",)]), "c").clauses()
# [('-a', 'c'), ('-b', '-c'), ('-c', 'b'), ('a', 'c')]
"""


class ExamplesTest(unittest.TestCase):
    def check(self, block):
        names = {}
        last = None
        for line in block.splitlines():
            if line.startswith("# "):
                self.assertEqual(shown(eval(last, names)), shown(eval(line[2:], {})), last)
            elif line.startswith(("from ", "book = ")):
                exec(line, names)
            last = line

    def test_errors(self):
        self.check(ERRORS)

    def test_clauses(self):
        self.check(CLAUSES)

    def test_books(self):
        self.check(BOOKS)


if __name__ == "__main__":
    unittest.main()
