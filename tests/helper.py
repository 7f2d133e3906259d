"""What the tests share: any objects, what each kind of argument is, and truth by trying all values.

Nothing here calls the functions that are tested: kinds are told by patterns, truth by whole assignments.
"""

import inspect
import itertools
import re

from lookdepths import errors
from lookdepths.books import Book

ERROR_NAMES = [
    "InvalidLiteral", "InvalidVariable", "InvalidClause", "InvalidClauses", "InvalidBook", "InvalidFilling",
    "InvalidMap", "InvalidDepth", "InvalidNumber", "InvalidLook", "InvalidTree", "InvalidPoints",
    "InvalidDerivation", "InvalidFamily", "InvalidMake", "InvalidDesk", "InvalidSpot", "InvalidScript",
    "InvalidText", "InvalidRecord", "Filled", "Refused",
]
BARE_NAMES = ["NothingToUndo", "NothingToRedo"]


def any_objects():
    """Return new objects of every kind of point 2, many of them nearly what some function wants."""
    words = ["", " ", "-", "--a", "a", "b", "-a", "-b", "c", "z", "-z", "abcdefgh", "-abcdefgh", "abcdefghi",
             "-abcdefghi", "A", "-A", "aB", "a1", "1", "a-", "a b", " a", "a ", "a\n", "\ta", "-a\n", "_", "`", "{",
             "None", "~", "()"]
    numbers = [None, True, False, 0, 1, 2, -1, 10 ** 29, -10 ** 29]
    within = [(word,) for word in words] + [[word] for word in words] + [(n,) for n in numbers] + [[n] for n in numbers]
    tuples = [(), ((),), ("a", "b"), ("b", "a"), ("a", "a"), ("-a", "a"), ("-a", "b"), ("a", "-b"), ("-b", "a"),
              ("-b", "-a"), ("-a", "-b", "a"), ("a", True), ("a", None), (1, "a"), ("a", ("b",)), (("a",), ("b",)),
              ("a", ["b"]), ("a", {}), ({"a": "b"},), ("-a", "b", "c"), ("-a", "-b", "c"), ("a", "b", "c")]
    lists = [[], [[]], [()], [("a",)], [("a",), ("a",)], [("b",), ("a",), ()], [["a"]], ["a", "b"], ["b", "a"],
             ["a", "a"], ["-a", "a"], ["-a", "b"], ["a", True], ["a", None], [("a",), None], [("a", "a")], ["a", ["b"]],
             [("a",), ["b"]], [("b", "a")], [("-a", "a")], [("a",), "b"], [("a", "b"), ()], ["c"], ["b", "c"]]
    dicts = [{}, {"a": "b"}, {"a": "a", "b": "b"}, {"a": "b", "b": "a"}, {"a": "c", "b": "c"}, {"a": "b", "b": "b"},
             {"-a": "b"}, {"a": "-b"}, {"a": None}, {"a": True}, {"a": 1}, {None: "a"}, {True: "a"}, {1: 0}, {"a": ["b"]},
             {"a": ("b",)}, {("a",): "b"}, {("a",): 1, (): 2}, {"a": {"a": "b"}}, {"a": "abcdefghi"}, {"A": "a"},
             {"a": "x", "b": "y", "c": "z"}, {"a": "x", "b": "y", "c": "x"}, {"a": "x", "b": "y", "": "z"},
             {"a": "x", "b": "y", "c": "z", "d": "w"}, {"a": "x", "b": "y", None: "z"}, {"a": "x", "b": "y", "c": []}]
    own = [Book([]), Book([()]), Book([("a",), ("-b",)]), errors.LookError(), errors.InvalidClause(("a",)),
           errors.Refused()]
    own += [[Book([])], (Book([]),), {"a": Book([])}, ("a", Book([("b",)])), {errors.Refused(): "a"}]
    return words + numbers + within + tuples + lists + dicts + own


def is_name(value):
    return isinstance(value, str) and re.fullmatch("[a-z]{1,8}", value) is not None


def is_signed_name(value):
    return isinstance(value, str) and re.fullmatch("-?[a-z]{1,8}", value) is not None


def is_row(value):
    """Whether any object is a clause."""
    if not isinstance(value, tuple) or not all(is_signed_name(entry) for entry in value):
        return False
    return list(value) == sorted(value) and len({entry.strip("-") for entry in value}) == len(value)


def is_rows(value):
    return isinstance(value, list) and all(is_row(entry) for entry in value)


def is_names(value):
    """Whether any object is an ascending list of variables."""
    return isinstance(value, list) and all(is_name(entry) for entry in value) and value == sorted(set(value))


def is_sent(value):
    """Whether any object is a dictionary from variables to unlike variables."""
    if not isinstance(value, dict) or not all(is_name(name) for name in [*value, *value.values()]):
        return False
    return len(set(value.values())) == len(value)


def is_book(value):
    return isinstance(value, Book)


def names_in(rows):
    """The ascending list of the variables in clauses."""
    return sorted({literal.strip("-") for row in rows for literal in row})


def row(*literals):
    return tuple(sorted(set(literals)))


def every_row(names, most=None):
    """All clauses of some variables, of at most so many literals."""
    rows = []
    for signs in itertools.product(["", "-", None], repeat=len(names)):
        rows.append(row(*[sign + name for sign, name in zip(signs, names) if sign is not None]))
    return [entry for entry in rows if most is None or len(entry) <= most]


def every_book(names, most_clauses):
    """All lists of at most so many unlike clauses of some variables."""
    rows = every_row(names)
    return [list(some) for many in range(most_clauses + 1) for some in itertools.combinations(rows, many)]


def assignments(names):
    """All dictionaries from variables to truth values."""
    return [dict(zip(names, values)) for values in itertools.product([True, False], repeat=len(names))]


def holds(literals, values):
    """Whether one of some literals is true in an assignment."""
    return any(values[literal.strip("-")] != literal.startswith("-") for literal in literals)


def all_hold(literals, values):
    """Whether each of some literals is true in an assignment."""
    return all(holds([literal], values) for literal in literals)


def satisfied(rows, values):
    return all(holds(entry, values) for entry in rows)


def satisfying(rows, names):
    """The assignments of some variables in which each clause is true."""
    return [values for values in assignments(names) if satisfied(rows, values)]


def shown(value):
    """A text that is the same only for values that are equal kind by kind, dictionaries in the order of their items."""
    if isinstance(value, Book):
        return f"Book({value.clauses()!r})"
    if isinstance(value, list):
        return "[" + ", ".join(shown(entry) for entry in value) + "]"
    if isinstance(value, tuple):
        return "(" + "".join(shown(entry) + ", " for entry in value) + ")"
    if isinstance(value, dict):
        return "{" + ", ".join(shown(key) + ": " + shown(value[key]) for key in value) + "}"
    return repr(value)


def parameters(function):
    return list(inspect.signature(function).parameters)
