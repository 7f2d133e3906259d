"""Points 10 to 14: literals and clauses."""

import itertools
import unittest

from lookdepths.clauses import (
    clause_of, common, contrary, is_clause, is_literal, is_within, meeting, put_together, renamed, turned, united,
    variable_of, variables_in,
)
from lookdepths.errors import InvalidClause, InvalidLiteral, InvalidMap, Refused
from tests.helper import any_objects, assignments, every_row, holds, is_row, is_signed_name, row

# One name holds the two others: variables are compared whole, not by their letters.
NAMES = ["a", "ab", "b"]
ROWS = every_row(NAMES)


class LiteralsTest(unittest.TestCase):
    def test_names_of_one_and_of_eight_letters(self):
        for name in ["a", "z", "m", "abcdefgh", "zzzzzzzz", "no", "seven"]:
            self.assertEqual([contrary(name), contrary("-" + name)], ["-" + name, name])
            self.assertEqual([variable_of(name), variable_of("-" + name)], [name, name])
            self.assertIs(is_literal(name), True)
            self.assertIs(is_literal("-" + name), True)

    def test_every_letter_and_no_other_sign(self):
        signs = [chr(code) for code in range(32, 127)] + ["\t", "\n"]
        letters = [sign for sign in signs if is_literal(sign)]
        self.assertEqual("".join(letters), "abcdefghijklmnopqrstuvwxyz")
        for sign in signs:
            for text in ["a" + sign, "-a" + sign, sign + "a" if sign != "-" else "--a", "a" + sign + "a"]:
                self.assertIs(is_literal(text), sign in letters, text)

    def test_just_beyond_a_literal(self):
        for text in ["", "-", "--", "--a", "abcdefghi", "-abcdefghi", "a-", "a-b", "-A", "ab c"]:
            self.assertIs(is_literal(text), False)
            for function in [contrary, variable_of]:
                with self.assertRaises(InvalidLiteral) as seen:
                    function(text)
                self.assertEqual(seen.exception.value, text)

    def test_is_literal_judges_any_object(self):
        for value in any_objects():
            self.assertIs(is_literal(value), is_signed_name(value))

    def test_contrary_twice_is_the_literal(self):
        for literal in ["a", "-a", "xyz", "-xyz"]:
            self.assertEqual(contrary(contrary(literal)), literal)
            self.assertNotEqual(contrary(literal), literal)


class ClausesTest(unittest.TestCase):
    def test_is_clause_judges_any_object(self):
        for value in any_objects():
            self.assertIs(is_clause(value), is_row(value), value)

    def test_is_clause_of_every_tuple_of_three_signed_names(self):
        signed = ["-a", "-b", "a", "b", "c"]
        for length in range(4):
            for value in itertools.product(signed, repeat=length):
                self.assertIs(is_clause(value), is_row(value), value)

    def test_edges_of_clauses(self):
        self.assertEqual([is_clause(()), is_clause(("a",)), is_clause(("-abcdefgh", "abcdefg"))], [True, True, True])
        for value in [("a", "a"), ("-a", "a"), ("b", "a"), ("a", "-b"), ("abcdefghi",), (("a",),), "a", ["a"], ("a", 1)]:
            self.assertIs(is_clause(value), False, value)

    def test_negated_literals_come_first(self):
        self.assertEqual(clause_of(["a", "-z", "b", "-c"]), ("-c", "-z", "a", "b"))

    def test_clause_of_any_order_and_doubles(self):
        for literals in ROWS:
            for mixed in itertools.permutations(literals):
                self.assertEqual(clause_of(list(mixed)), literals)
                self.assertEqual(clause_of(list(mixed + mixed)), literals)
        self.assertEqual(clause_of([]), ())

    def test_clause_of_wrong_lists(self):
        for value in [["a", "-a"], ["-a", "b", "a"], ["a", None], ["a", "B"], [("a",)], ("a",), "a", {"a": "b"}, None]:
            with self.assertRaises(InvalidClause) as seen:
                clause_of(value)
            self.assertIs(seen.exception.value, value)

    def test_variables_in(self):
        self.assertEqual(variables_in(()), [])
        self.assertEqual(variables_in(("-c", "-d", "a", "b")), ["a", "b", "c", "d"])
        for literals in ROWS:
            self.assertEqual(variables_in(literals), sorted({literal.strip("-") for literal in literals}))


class PairsTest(unittest.TestCase):
    """Two clauses, all pairs of those of three variables."""

    def test_within(self):
        for one, other in itertools.product(ROWS, repeat=2):
            self.assertIs(is_within(one, other), set(one) <= set(other))

    def test_what_makes_the_one_true_makes_the_other_true(self):
        for one, other in itertools.product(ROWS, repeat=2):
            if is_within(one, other):
                for values in assignments(NAMES):
                    self.assertTrue(holds(other, values) or not holds(one, values))

    def test_common(self):
        for one, other in itertools.product(ROWS, repeat=2):
            self.assertEqual(common(one, other), tuple(sorted(set(one) & set(other))))

    def test_united(self):
        for one, other in itertools.product(ROWS, repeat=2):
            both = set(one) | set(other)
            if any("-" + literal in both for literal in both):
                with self.assertRaises(Refused) as seen:
                    united(one, other)
                self.assertIs(seen.exception.value, other)
            else:
                self.assertEqual(united(one, other), tuple(sorted(both)))

    def test_meeting_and_put_together(self):
        for one, other in itertools.product(ROWS, repeat=2):
            both = set(one) | set(other)
            clashing = [name for name in NAMES if name in both and "-" + name in both]
            if len(clashing) == 1:
                left = both - {clashing[0], "-" + clashing[0]}
                self.assertEqual(meeting(one, other), clashing[0])
                self.assertEqual(put_together(one, other), tuple(sorted(left)))
                continue
            self.assertIsNone(meeting(one, other))
            with self.assertRaises(Refused) as seen:
                put_together(one, other)
            self.assertIs(seen.exception.value, other)

    def test_what_is_put_together_follows(self):
        for one, other in itertools.product(ROWS, repeat=2):
            if meeting(one, other) is not None:
                made = put_together(one, other)
                self.assertTrue(is_clause(made))
                for values in assignments(NAMES):
                    self.assertTrue(holds(made, values) or not holds(one, values) or not holds(other, values))

    def test_clashes_at_no_one_and_two_variables(self):
        self.assertEqual([meeting((), ()), meeting(("a",), ()), meeting(("a",), ("b",))], [None, None, None])
        self.assertEqual([meeting(("a",), ("-a",)), put_together(("a",), ("-a",))], ["a", ()])
        self.assertEqual(put_together(("-a", "b", "c"), ("a", "b", "d")), ("b", "c", "d"))
        self.assertIsNone(meeting(("-a", "b"), ("-b", "a")))


class SentTest(unittest.TestCase):
    def test_turned(self):
        for literals in ROWS:
            for many in range(4):
                for names in itertools.combinations(["a", "ab", "d"], many):
                    result = turned(literals, list(names))
                    self.assertTrue(is_row(result))
                    self.assertEqual(turned(result, list(names)), literals)
                    for values in assignments(NAMES + ["d"]):
                        flipped = {name: values[name] != (name in names) for name in values}
                        self.assertEqual(holds(literals, values), holds(result, flipped))

    def test_turned_lists(self):
        self.assertEqual([turned((), ["a"]), turned(("a",), []), turned(("a",), ["b"])], [(), ("a",), ("a",)])
        self.assertEqual(turned(("-b", "a"), ["a", "b"]), ("-a", "b"))
        for names in [["b", "a"], ["a", "a"], ["-a"], ("a",), "a", ["abcdefghi"], [None], {"a": "b"}, None, [["a"]]]:
            with self.assertRaises(InvalidMap) as seen:
                turned(("a",), names)
            self.assertIs(seen.exception.value, names)

    def test_renamed(self):
        for targets in itertools.permutations(["a", "ab", "b", "y", "x"], 3):
            sent = dict(zip(NAMES, targets))
            back = dict(zip(targets, NAMES))
            for literals in ROWS:
                result = renamed(literals, sent)
                pairs = [(literal.startswith("-"), sent[literal.strip("-")]) for literal in literals]
                self.assertEqual(result, row(*["-" + name if sign else name for sign, name in pairs]))
                self.assertEqual(renamed(result, back), literals)

    def test_renamed_to_one_another_and_with_more_names(self):
        self.assertEqual(renamed(("-a", "b"), {"a": "b", "b": "a"}), ("-b", "a"))
        self.assertEqual(renamed(("-b", "a"), {"a": "b", "c": "d", "b": "a"}), ("-a", "b"))
        self.assertEqual([renamed((), {}), renamed((), {"q": "r"})], [(), ()])
        self.assertEqual(renamed(("-ab", "b"), {"ab": "b", "b": "abcdefgh"}), ("-b", "abcdefgh"))

    def test_renamed_by_what_is_no_such_dictionary(self):
        for sent in [{}, {"a": "x"}, {"a": "x", "b": "x"}, {"a": "x", "b": "y", "c": "x"}, {"a": "x", "b": "-y"},
                     {"a": "x", "b": "y", "-c": "z"}, {"a": "x", "b": "y", None: "z"}, {"a": "x", "b": "y", "c": 1},
                     {"a": "x", "b": ["y"]}, {"a": "x", "b": "abcdefghi"}, {"a": "x", "b": "y", "abcdefghi": "z"},
                     {"-a": "x", "b": "y"}, [("a", "x"), ("b", "y")], ["a", "b"], None]:
            with self.assertRaises(InvalidMap) as seen:
                renamed(("-a", "b"), sent)
            self.assertIs(seen.exception.value, sent)


if __name__ == "__main__":
    unittest.main()
