"""Points 15 to 21: books and part-fillings."""

import itertools
import unittest

from lookdepths.books import (
    Book, all_parts, broken, either, is_filling, is_part, kept, pieces, renamed_book, rest, set_also, shrunk,
    side_by_side, turned_book, with_clause, without_clause,
)
from lookdepths.errors import (
    InvalidBook, InvalidClause, InvalidClauses, InvalidFilling, InvalidLiteral, InvalidMap, InvalidVariable, Refused,
)
from tests.helper import (
    all_hold, any_objects, assignments, every_book, every_row, is_row, names_in, row, satisfied, satisfying,
)

# All books of two variables, and all of at most two clauses of three, one of which has the letters of both others.
BOOKS = every_book(["a", "b"], 9) + every_book(["a", "ab", "b"], 2)
NO_CLAUSES, EMPTY_CLAUSE = Book([]), Book([()])


def parts_of(rows):
    return every_row(names_in(rows))


def contraries(literals):
    return {literal.strip("-") if literal.startswith("-") else "-" + literal for literal in literals}


class BookTest(unittest.TestCase):
    def test_clauses_and_variables(self):
        for rows in BOOKS:
            book = Book(rows[::-1] + rows)
            self.assertEqual(book.clauses(), sorted(rows))
            self.assertEqual(book.variables(), names_in(rows))

    def test_edges(self):
        self.assertEqual([NO_CLAUSES.clauses(), NO_CLAUSES.variables()], [[], []])
        self.assertEqual([EMPTY_CLAUSE.clauses(), EMPTY_CLAUSE.variables()], [[()], []])
        self.assertEqual(Book([("-b", "a"), (), ("-b", "a")]).clauses(), [(), ("-b", "a")])
        self.assertEqual(Book([("-z", "b"), ("a",)]).variables(), ["a", "b", "z"])

    def test_equal_exactly_if_the_clauses_are(self):
        some = every_book(["a", "b"], 2)
        for one, other in itertools.product(some, repeat=2):
            self.assertIs(Book(one) == Book(other[::-1]), set(one) == set(other))
            self.assertIs(Book(one) != Book(other), set(one) != set(other))

    def test_never_equal_to_another_object(self):
        for book in [NO_CLAUSES, EMPTY_CLAUSE, Book([("a",)])]:
            for value in [value for value in any_objects() if not isinstance(value, Book)]:
                self.assertIs(book == value, False)
                self.assertIs(value == book, False)
                self.assertIs(book != value, True)
            self.assertIs(book == book.clauses(), False)

    def test_wrong_lists(self):
        for value in [None, (), (("a",),), [("b", "a")], [("a",), ["b"]], [("a", "-a")], ["a"], [None], {("a",): 1},
                      [("a",), ("abcdefghi",)], NO_CLAUSES, [NO_CLAUSES]]:
            with self.assertRaises(InvalidClauses) as seen:
                Book(value)
            self.assertIs(seen.exception.value, value)


class PartsTest(unittest.TestCase):
    def test_is_part_judges_any_object(self):
        for book in [NO_CLAUSES, EMPTY_CLAUSE, Book([("-a", "b")]), Book([("a",), ("-c", "abcdefgh")])]:
            for value in any_objects():
                expected = is_row(value) and all(literal.strip("-") in book.variables() for literal in value)
                self.assertIs(is_part(book, value), expected)

    def test_is_part_edges(self):
        book = Book([("-b", "a"), ("c",)])
        self.assertTrue(all(is_part(book, part) for part in [(), ("b",), ("-c",), ("-a", "-b", "c")]))
        for value in [("d",), ("a", "d"), ("b", "a"), ("-a", "a"), ("a", "a"), ["a"], "a", None, ("A",)]:
            self.assertIs(is_part(book, value), False)
        for value in [None, [("a",)], "a"]:
            self.assertRaises(InvalidBook, is_part, value, ("a",))

    def test_rest_broken_and_kept(self):
        for rows in BOOKS:
            book = Book(rows)
            for part in parts_of(rows):
                against = contraries(part)
                left = {row(*set(clause) - against) for clause in rows if not set(clause) & set(part)}
                self.assertEqual(rest(book, part).clauses(), sorted(left))
                self.assertEqual(broken(book, part), sorted(clause for clause in rows if set(clause) <= against))
                self.assertEqual(kept(book, part), sorted(clause for clause in rows if set(clause) & set(part)))

    def test_what_broken_and_kept_tell_of_the_rest(self):
        for rows in BOOKS:
            book = Book(rows)
            for part in parts_of(rows):
                self.assertEqual(() in rest(book, part).clauses(), broken(book, part) != [])
                self.assertEqual(rest(book, part) == NO_CLAUSES, kept(book, part) == book.clauses())

    def test_the_rest_is_true_where_the_book_is(self):
        for rows in BOOKS:
            book, names = Book(rows), names_in(rows)
            for part in parts_of(rows):
                left = rest(book, part).clauses()
                for values in assignments(names):
                    if all_hold(part, values):
                        self.assertEqual(satisfied(left, values), satisfied(rows, values))

    def test_set_in_whatever_order(self):
        book = Book([("a", "b", "c"), ("-a", "b"), ("-b", "c"), ("-c", "d"), ("-d", "a")])
        for part in all_parts(book):
            for literals in itertools.permutations(part):
                left = book
                for literal in literals:
                    if literal.strip("-") in left.variables():
                        left = rest(left, (literal,))
                self.assertEqual(left, rest(book, part))

    def test_rest_of_edges(self):
        self.assertEqual([rest(NO_CLAUSES, ()).clauses(), rest(EMPTY_CLAUSE, ()).clauses()], [[], [()]])
        self.assertEqual([broken(EMPTY_CLAUSE, ()), kept(EMPTY_CLAUSE, ()), broken(NO_CLAUSES, ())], [[()], [], []])
        self.assertEqual(broken(Book([(), ("a",)]), ("-a",)), [(), ("a",)])
        self.assertEqual(rest(Book([("a",), ("a", "b")]), ("-a",)).clauses(), [(), ("b",)])
        # Variables that are not set may be gone, and two clauses may become one.
        self.assertEqual(rest(Book([("a", "b")]), ("a",)).variables(), [])
        self.assertEqual(rest(Book([("-a", "c"), ("c",)]), ("a",)).clauses(), [("c",)])

    def test_wrong_part_fillings(self):
        book = Book([("a", "b")])
        for function in [rest, broken, kept]:
            for part in [["a"], ("b", "a"), ("c",), ("-a", "a"), None, "a", ("a", None)]:
                with self.assertRaises(InvalidFilling) as seen:
                    function(book, part)
                self.assertIs(seen.exception.value, part)


class FillingsTest(unittest.TestCase):
    def test_is_filling_of_every_part(self):
        for rows in BOOKS:
            names = names_in(rows)
            full = [row(*[name if values[name] else "-" + name for name in names])
                    for values in satisfying(rows, names)]
            self.assertEqual([part for part in parts_of(rows) if is_filling(Book(rows), part)],
                             [part for part in parts_of(rows) if part in full])

    def test_is_filling_judges_any_object(self):
        book = Book([("-a", "b")])
        for value in any_objects():
            expected = is_part(book, value) and value in [("-a", "-b"), ("-a", "b"), ("a", "b")]
            self.assertIs(is_filling(book, value), expected)

    def test_is_filling_edges(self):
        self.assertEqual([is_filling(NO_CLAUSES, ()), is_filling(EMPTY_CLAUSE, ())], [True, False])
        self.assertEqual([is_filling(Book([("a",), ()]), ("a",)), is_filling(Book([("a",)]), ("a", "b"))], [False, False])
        self.assertIs(is_filling(Book([("a", "b")]), ("a",)), False)

    def test_all_parts_of_up_to_six_variables(self):
        for many in range(7):
            names = list("fedcba"[:many])
            expected = sorted(every_row(sorted(names)), key=lambda part: (len(part), part))
            self.assertEqual(all_parts(Book([tuple(sorted(names))])), expected)
            self.assertEqual(len(expected), 3 ** many)
        self.assertEqual([all_parts(NO_CLAUSES), all_parts(EMPTY_CLAUSE)], [[()], [()]])
        self.assertEqual(all_parts(Book([("a", "b")])), [
            (), ("-a",), ("-b",), ("a",), ("b",), ("-a", "-b"), ("-a", "b"), ("-b", "a"), ("a", "b")])

    def test_all_parts_are_part_fillings(self):
        book = Book([("-a", "b", "zz"), ("-zz",)])
        self.assertTrue(all(is_part(book, part) for part in all_parts(book)))

    def test_set_also(self):
        book = Book([("a", "b", "c")])
        literals = ["-a", "-b", "-c", "a", "b", "c"]
        for part, literal in itertools.product(all_parts(book), literals):
            if {literal} & (set(part) | contraries(part)):
                with self.assertRaises(Refused) as seen:
                    set_also(book, part, literal)
                self.assertIs(seen.exception.value, literal)
            else:
                self.assertEqual(set_also(book, part, literal), row(*part, literal))

    def test_set_also_wrong_literals(self):
        book = Book([("a", "b")])
        for literal in ["c", "-c", "--a", "", None, ("b",), ["b"], True, "B", "abcdefghi"]:
            with self.assertRaises(InvalidLiteral) as seen:
                set_also(book, ("a",), literal)
            self.assertIs(seen.exception.value, literal)
        self.assertRaises(InvalidFilling, set_also, book, ("c",), "c")


class ChangedBooksTest(unittest.TestCase):
    def test_shrunk(self):
        for rows in BOOKS:
            expected = sorted(entry for entry in rows if not any(set(other) < set(entry) for other in rows))
            self.assertEqual(shrunk(Book(rows)).clauses(), expected)
            names = names_in(rows)
            self.assertEqual(satisfying(expected, names), satisfying(rows, names))

    def test_shrunk_edges(self):
        self.assertEqual(shrunk(NO_CLAUSES), NO_CLAUSES)
        self.assertEqual(shrunk(Book([(), ("a",), ("-b",)])), EMPTY_CLAUSE)
        self.assertEqual(shrunk(Book([("a",), ("-a", "b"), ("a", "b")])).clauses(), [("-a", "b"), ("a",)])

    def test_with_and_without_each_clause(self):
        book = Book([("a", "b"), ("-c",), ()])
        for clause in every_row(["a", "b", "bc", "c"]):
            if clause in book.clauses():
                self.assertEqual(without_clause(book, clause).clauses(),
                                 [entry for entry in book.clauses() if entry != clause])
                refused = with_clause
            else:
                self.assertEqual(with_clause(book, clause).clauses(), sorted(book.clauses() + [clause]))
                self.assertEqual(without_clause(with_clause(book, clause), clause), book)
                refused = without_clause
            with self.assertRaises(Refused) as seen:
                refused(book, clause)
            self.assertIs(seen.exception.value, clause)
        self.assertEqual(book, Book([("a", "b"), ("-c",), ()]))

    def test_with_and_without_edges(self):
        self.assertEqual(with_clause(NO_CLAUSES, ()), EMPTY_CLAUSE)
        self.assertEqual(without_clause(EMPTY_CLAUSE, ()), NO_CLAUSES)
        self.assertEqual(with_clause(EMPTY_CLAUSE, ("new", "other")).variables(), ["new", "other"])
        self.assertEqual(without_clause(Book([("a",), ("b",)]), ("b",)).variables(), ["a"])
        for function in [with_clause, without_clause]:
            for clause in [["a"], ("b", "a"), ("-a", "a"), None, "a"]:
                with self.assertRaises(InvalidClause) as seen:
                    function(NO_CLAUSES, clause)
                self.assertIs(seen.exception.value, clause)


class SentBooksTest(unittest.TestCase):
    def test_turned_book(self):
        for rows in BOOKS:
            names = names_in(rows)
            for some in [list(some) for many in range(3) for some in itertools.combinations(names, many)]:
                result = turned_book(Book(rows), some)
                self.assertEqual(result.variables(), names)
                self.assertEqual(turned_book(result, some), Book(rows))
                for values in assignments(names):
                    flipped = {name: values[name] != (name in some) for name in names}
                    self.assertEqual(satisfied(result.clauses(), flipped), satisfied(rows, values))

    def test_turned_book_wrong_lists(self):
        book = Book([("-a", "b")])
        for names in [["b", "a"], ["c"], ["a", "c"], ["a", "a"], ["-a"], ("a",), "a", None, [None], {"a": "b"}]:
            with self.assertRaises(InvalidMap) as seen:
                turned_book(book, names)
            self.assertIs(seen.exception.value, names)
        self.assertEqual([turned_book(book, []), turned_book(NO_CLAUSES, [])], [book, NO_CLAUSES])
        self.assertRaises(InvalidMap, turned_book, NO_CLAUSES, ["a"])

    def test_renamed_book(self):
        for rows in BOOKS:
            names = names_in(rows)
            for targets in itertools.permutations(["b", "a", "y"], len(names)):
                sent = dict(zip(reversed(names), targets))
                result = renamed_book(Book(rows), sent)
                self.assertEqual(result.variables(), sorted(targets))
                for values in assignments(names):
                    moved = {sent[name]: values[name] for name in names}
                    self.assertEqual(satisfied(result.clauses(), moved), satisfied(rows, values))
                self.assertEqual(renamed_book(result, {sent[name]: name for name in names}), Book(rows))

    def test_renamed_book_wrong_dictionaries(self):
        book = Book([("-a", "b")])
        for sent in [{}, {"a": "x"}, {"a": "x", "b": "x"}, {"a": "x", "b": "y", "c": "z"}, {"a": "x", "c": "y"},
                     {"a": "x", "b": "-y"}, {"a": "x", "b": None}, {"a": "x", None: "y"}, {"a": "x", "b": ["y"]},
                     ["a", "b"], [("a", "x"), ("b", "y")], None]:
            with self.assertRaises(InvalidMap) as seen:
                renamed_book(book, sent)
            self.assertIs(seen.exception.value, sent)
        self.assertEqual(renamed_book(book, {"b": "a", "a": "b"}).clauses(), [("-b", "a")])
        self.assertEqual([renamed_book(NO_CLAUSES, {}), renamed_book(EMPTY_CLAUSE, {})], [NO_CLAUSES, EMPTY_CLAUSE])
        self.assertRaises(InvalidMap, renamed_book, EMPTY_CLAUSE, {"a": "b"})


class BesideTest(unittest.TestCase):
    def test_side_by_side(self):
        for one, other in itertools.product(every_book(["a", "b"], 2), every_book(["ab", "b"], 2)):
            if "b" in names_in(one) and "b" in names_in(other):
                last = Book(other)
                with self.assertRaises(Refused) as seen:
                    side_by_side(Book(one), last)
                self.assertIs(seen.exception.value, last)
            else:
                self.assertEqual(side_by_side(Book(one), Book(other)).clauses(), sorted({*one, *other}))

    def test_side_by_side_edges(self):
        self.assertEqual(side_by_side(NO_CLAUSES, NO_CLAUSES), NO_CLAUSES)
        self.assertEqual(side_by_side(EMPTY_CLAUSE, EMPTY_CLAUSE), EMPTY_CLAUSE)
        self.assertRaises(Refused, side_by_side, Book([("a",)]), Book([("-a",)]))

    def test_pieces(self):
        for rows in every_book(["a", "ab", "b"], 3) + [
                list(some) for some in itertools.combinations(every_row(["a", "b", "c", "d"], 2), 3)]:
            found = [piece.clauses() for piece in pieces(Book(rows))]
            self.assertEqual(sorted(entry for piece in found for entry in piece), sorted(rows))
            names = [names_in(piece) for piece in found]
            self.assertEqual(sorted(sum(names, [])), names_in(rows))
            self.assertEqual([some[:1] for some in names], sorted(some[:1] for some in names))
            for piece in found:
                self.assertTrue(piece)
                self.assertFalse(self.falls_apart(piece), piece)

    def falls_apart(self, rows):
        """Whether some of the clauses, not all, have no variable in common with the others."""
        for many in range(1, len(rows)):
            for some in itertools.combinations(rows, many):
                others = [entry for entry in rows if entry not in some]
                if not set(names_in(some)) & set(names_in(others)):
                    return True
        return False

    def test_pieces_edges(self):
        self.assertEqual([pieces(NO_CLAUSES), pieces(EMPTY_CLAUSE)], [[], [EMPTY_CLAUSE]])
        found = pieces(Book([("z",), (), ("b", "y"), ("-a", "x"), ("-c", "x"), ("-z",)]))
        self.assertEqual([piece.clauses() for piece in found],
                         [[()], [("-a", "x"), ("-c", "x")], [("b", "y")], [("-z",), ("z",)]])
        # The last clause of the book links what seemed apart.
        linked = Book([("a", "x"), ("b", "y"), ("c", "z"), ("x", "y")])
        self.assertEqual([piece.clauses() for piece in pieces(linked)],
                         [[("a", "x"), ("b", "y"), ("x", "y")], [("c", "z")]])

    def test_either(self):
        for one, other in itertools.product(every_book(["a", "b"], 2), every_book(["d", "z"], 2)):
            for variable in ["c", "abcdefgh"]:
                made = either(Book(one), Book(other), variable)
                expected = {row(*entry, variable) for entry in one} | {row(*entry, "-" + variable) for entry in other}
                self.assertEqual(made.clauses(), sorted(expected))

    def test_either_can_be_filled_exactly_if_one_of_both_can(self):
        for one, other in itertools.product(every_book(["a"], 3), every_book(["b"], 3)):
            made = either(Book(one), Book(other), "c")
            fills = bool(satisfying(one, ["a"]) or satisfying(other, ["b"]))
            self.assertEqual(bool(satisfying(made.clauses(), ["a", "b", "c"])), fills)

    def test_either_of_wrong_variables(self):
        one, other = Book([("a",), ("b",)]), Book([("-c", "d")])
        for variable in ["a", "b", "c", "d", "-e", "", "E", "abcdefghi", None, ("e",), ["e"], True, one]:
            with self.assertRaises(InvalidVariable) as seen:
                either(one, other, variable)
            self.assertIs(seen.exception.value, variable)

    def test_either_of_books_with_a_variable_in_common(self):
        one, other = Book([("a",), ("b",)]), Book([("-b", "d")])
        with self.assertRaises(Refused) as seen:
            either(one, other, "e")
        self.assertIs(seen.exception.value, other)
        self.assertEqual(either(EMPTY_CLAUSE, EMPTY_CLAUSE, "a").clauses(), [("-a",), ("a",)])
        self.assertEqual(either(NO_CLAUSES, NO_CLAUSES, "a"), NO_CLAUSES)
        self.assertEqual(either(NO_CLAUSES, EMPTY_CLAUSE, "a").clauses(), [("-a",)])
        self.assertEqual(either(EMPTY_CLAUSE, NO_CLAUSES, "a").clauses(), [("a",)])


if __name__ == "__main__":
    unittest.main()
