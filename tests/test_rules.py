"""Points 1 and 2, for every function of the landed modules."""

import unittest

from lookdepths import books, clauses
from lookdepths import errors as wrong
from lookdepths.books import Book
from tests.helper import (
    any_objects, is_book, is_name, is_names, is_row, is_rows, is_sent, is_signed_name, parameters, shown,
)

BOOK = Book([("-a", "b"), ("b", "c"), ("-c",), ()])
APART = Book([("x", "y"), ("-x",)])
ABC = ["a", "b", "c"]
SENT = {"abcdefgh": "c", "z": "abcdefgh", "c": "q", "b": "a", "a": "b"}


def is_part_of_abc(value):
    return is_row(value) and all(literal.strip("-") in ABC for literal in value)


def is_literal_of_abc(value):
    return is_signed_name(value) and value.strip("-") in ABC


def are_literals(value):
    """Whether any object is a list of literals of which no two are contrary."""
    if not isinstance(value, list) or not all(is_signed_name(entry) for entry in value):
        return False
    return is_row(tuple(sorted(set(value))))


def is_sent_from(names, exactly):
    def judge(value):
        if not is_sent(value):
            return False
        return sorted(value) == names if exactly else all(name in value for name in names)
    return judge


BOOK_ARGUMENT = ("book", wrong.InvalidBook, is_book, BOOK)
PART = ("part", wrong.InvalidFilling, is_part_of_abc, ("-a",))
CLAUSE = ("clause", wrong.InvalidClause, is_row, ("-a", "b"))
LITERAL = ("literal", wrong.InvalidLiteral, is_signed_name, "-a")
VALUE = ("value", None, None, ("-a",))
ONE, OTHER = ("one", wrong.InvalidClause, is_row, ("-b", "a")), ("other", wrong.InvalidClause, is_row, ("a", "b"))
ONE_BOOK, OTHER_BOOK = ("one", wrong.InvalidBook, is_book, BOOK), ("other", wrong.InvalidBook, is_book, APART)

# Each function with its parameters: the name, the error, what tells whether it is right, and one that is.
CLAUSE_CALLS = [
    (clauses.contrary, [LITERAL]),
    (clauses.variable_of, [LITERAL]),
    (clauses.is_literal, [VALUE]),
    (clauses.is_clause, [VALUE]),
    (clauses.clause_of, [("literals", wrong.InvalidClause, are_literals, ["b", "-a", "b"])]),
    (clauses.variables_in, [CLAUSE]),
    (clauses.is_within, [ONE, OTHER]),
    (clauses.common, [ONE, OTHER]),
    (clauses.united, [ONE, ("other", wrong.InvalidClause, is_row, ("a", "c"))]),
    (clauses.meeting, [ONE, OTHER]),
    (clauses.put_together, [ONE, OTHER]),
    (clauses.turned, [CLAUSE, ("variables", wrong.InvalidMap, is_names, ["a", "z"])]),
    (clauses.renamed, [CLAUSE, ("sent", wrong.InvalidMap, is_sent_from(["a", "b"], False), SENT)]),
]
BOOK_CALLS = [
    (Book, [("clauses", wrong.InvalidClauses, is_rows, [("b",), (), ("b",)])]),
    (books.is_part, [BOOK_ARGUMENT, VALUE]),
    (books.rest, [BOOK_ARGUMENT, PART]),
    (books.broken, [BOOK_ARGUMENT, PART]),
    (books.kept, [BOOK_ARGUMENT, PART]),
    (books.is_filling, [BOOK_ARGUMENT, VALUE]),
    (books.all_parts, [BOOK_ARGUMENT]),
    (books.set_also, [BOOK_ARGUMENT, PART, ("literal", wrong.InvalidLiteral, is_literal_of_abc, "b")]),
    (books.shrunk, [BOOK_ARGUMENT]),
    (books.with_clause, [BOOK_ARGUMENT, CLAUSE[:3] + (("z",),)]),
    (books.without_clause, [BOOK_ARGUMENT, CLAUSE]),
    (books.turned_book, [BOOK_ARGUMENT, (
        "variables", wrong.InvalidMap, lambda value: is_names(value) and all(name in ABC for name in value), ["a"])]),
    (books.renamed_book, [BOOK_ARGUMENT, (
        "sent", wrong.InvalidMap, is_sent_from(ABC, True), {"a": "c", "b": "a", "c": "b"})]),
    (books.side_by_side, [ONE_BOOK, OTHER_BOOK]),
    (books.pieces, [BOOK_ARGUMENT]),
    (books.either, [ONE_BOOK, OTHER_BOOK, (
        "variable", wrong.InvalidVariable, lambda value: is_name(value) and value not in ABC + ["x", "y"], "z")]),
]
CALLS = CLAUSE_CALLS + BOOK_CALLS

# Calls that are Refused, and the position of the argument that the error holds.
REFUSED = [
    (clauses.united, [("a",), ("-a", "b")], 1),
    (clauses.put_together, [("a",), ("a", "b")], 1),
    (clauses.put_together, [("a", "b"), ("-a", "-b")], 1),
    (books.set_also, [BOOK, ("-a", "b"), "a"], 2),
    (books.set_also, [BOOK, ("-a", "b"), "b"], 2),
    (books.with_clause, [BOOK, ("-a", "b")], 1),
    (books.without_clause, [BOOK, ("b",)], 1),
    (books.side_by_side, [BOOK, Book([("c", "d")])], 1),
    (books.either, [BOOK, Book([("c", "d")]), "e"], 1),
]
# One of each kind that is wrong for whatever has an error.
WRONG = [None, True, 0, "A", ["A"], ("A",), {"A": "a"}]


def right_arguments(rows):
    return [row[3] for row in rows]


class RulesTest(unittest.TestCase):
    def fails(self, function, arguments, error, held):
        """Check that a call raises just this error, which holds the very object."""
        with self.assertRaises(error) as seen:
            function(*arguments)
        self.assertIs(seen.exception.__class__, error)
        self.assertIs(seen.exception.value, held)

    def test_parameters_have_the_names_of_the_interface(self):
        for function, rows in CALLS:
            self.assertEqual(parameters(function), [row[0] for row in rows], function)

    def test_by_position_and_by_name_are_the_same(self):
        for function, rows in CALLS:
            by_name = function(**{row[0]: row[3] for row in reversed(rows)})
            self.assertEqual(shown(function(*right_arguments(rows))), shown(by_name), function)

    def test_every_other_object_is_wrong_and_is_held(self):
        for function, rows in CALLS:
            for at, (name, error, is_right, _) in enumerate(rows):
                for value in [value for value in any_objects() if error and not is_right(value)]:
                    arguments = right_arguments(rows)
                    arguments[at] = value
                    with self.subTest(function=function.__name__, name=name, value=value):
                        before = shown(arguments)
                        self.fails(function, arguments, error, value)
                        self.assertEqual(shown(arguments), before)

    def test_every_right_object_is_taken(self):
        for function, rows in CALLS:
            for at, (name, error, is_right, _) in enumerate(rows):
                for value in [value for value in any_objects() if error and is_right(value)]:
                    arguments = right_arguments(rows)
                    arguments[at] = value
                    with self.subTest(function=function.__name__, name=name, value=value):
                        try:
                            function(*arguments)
                        except wrong.LookError as caught:
                            # What the later arguments have to be hangs on the book.
                            self.assertTrue(error is wrong.InvalidBook or caught.__class__ is wrong.Refused)
                            self.assertIsNot(caught.__class__, error)

    def test_the_first_wrong_argument_decides(self):
        for function, rows in CALLS:
            for at, (_, error, _, _) in enumerate(rows):
                for first in WRONG if error else []:
                    for later in WRONG:
                        arguments = right_arguments(rows)[:at] + [first] + [later] * (len(rows) - at - 1)
                        with self.subTest(function=function.__name__, at=at, first=first, later=later):
                            self.fails(function, arguments, error, first)

    def test_refused_holds_the_named_argument(self):
        for function, arguments, held in REFUSED:
            with self.subTest(function=function.__name__, arguments=shown(arguments)):
                before = shown(arguments)
                self.fails(function, arguments, wrong.Refused, arguments[held])
                self.assertEqual(shown(arguments), before)

    def test_refused_comes_behind_all_other_errors(self):
        rows_of = {function.__name__: rows for function, rows in CALLS}
        for function, arguments, _ in REFUSED:
            for at, (_, error, _, _) in enumerate(rows_of[function.__name__]):
                for value in WRONG:
                    changed = arguments[:at] + [value] + arguments[at + 1:]
                    with self.subTest(function=function.__name__, at=at, value=value):
                        self.fails(function, changed, error, value)

    def test_a_variable_that_one_book_has_comes_ahead_of_refused(self):
        for variable in ["a", "c", "d", "-e"]:
            other = Book([("c", "d")])
            self.fails(books.either, [BOOK, other, variable], wrong.InvalidVariable, variable)

    def test_judges_return_true_or_false_for_any_object(self):
        for function, rows in CALLS:
            for value in any_objects() if rows[-1][0] == "value" else []:
                answer = function(*right_arguments(rows)[:-1], value)
                self.assertIn(answer, [True, False])
                self.assertIsInstance(answer, bool)

    def test_a_tuple_is_no_list_and_true_is_no_number(self):
        self.assertFalse(clauses.is_clause(["a"]))
        self.assertFalse(books.is_part(BOOK, ["a"]))
        self.assertFalse(books.is_filling(Book([("a",)]), ["a"]))
        self.fails(Book, [(("a",),)], wrong.InvalidClauses, (("a",),))
        literals, names = ("a",), ("a",)
        self.fails(clauses.clause_of, [literals], wrong.InvalidClause, literals)
        self.fails(clauses.turned, [("a",), names], wrong.InvalidMap, names)
        self.fails(books.turned_book, [BOOK, names], wrong.InvalidMap, names)

    def test_arguments_stay_as_they_were(self):
        for function, rows in CALLS:
            arguments = right_arguments(rows)
            before = shown(arguments)
            function(*arguments)
            self.assertEqual(shown(arguments), before, function)

    def test_what_was_returned_may_be_changed(self):
        for function, rows in CALLS:
            before = shown(function(*right_arguments(rows)))
            returned = function(*right_arguments(rows))
            if isinstance(returned, list):
                returned.append(None)
                returned[0] = None
                returned.reverse()
            self.assertEqual(shown(function(*right_arguments(rows))), before, function)

    def test_lists_of_a_book_may_be_changed(self):
        rows = [("b",), ("a", "b")]
        book = Book(rows)
        rows.append(("c",))
        rows[0] = None
        book.clauses().append(("d",))
        book.variables().clear()
        self.assertEqual([book.clauses(), book.variables()], [[("a", "b"), ("b",)], ["a", "b"]])

    def test_lists_and_dictionaries_that_were_passed_may_be_changed(self):
        names, sent, literals = ["a"], {"a": "x", "b": "y", "c": "z"}, ["b", "a"]
        turned, renamed = books.turned_book(BOOK, names), books.renamed_book(BOOK, sent)
        clause = clauses.clause_of(literals)
        told = shown([turned, renamed, clause])
        names.append("b")
        sent["a"] = "q"
        literals.clear()
        self.assertEqual(shown([turned, renamed, clause]), told)

    def test_all_is_defined_where_the_interface_lists_it(self):
        for module, calls in [(clauses, CLAUSE_CALLS), (books, BOOK_CALLS)]:
            for function, _ in calls:
                self.assertIs(getattr(module, function.__name__), function)
                self.assertEqual(function.__module__, module.__name__)
        for name in ["__init__", "__eq__", "clauses", "variables"]:
            self.assertIn(name, vars(Book))


if __name__ == "__main__":
    unittest.main()
