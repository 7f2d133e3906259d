"""What the tests share: any objects, what each kind of argument is, and truth by trying all values.

Nothing here calls the functions that are tested: kinds are told by patterns, truth by whole assignments.
"""

import functools
import inspect
import itertools
import random
import re
import unittest

from lookdepths import errors
from lookdepths.books import Book
from lookdepths.desk import Desk

ERROR_NAMES = [
    "InvalidLiteral", "InvalidVariable", "InvalidClause", "InvalidClauses", "InvalidBook", "InvalidFilling",
    "InvalidMap", "InvalidDepth", "InvalidNumber", "InvalidLook", "InvalidTree", "InvalidPoints",
    "InvalidDerivation", "InvalidFamily", "InvalidMake", "InvalidDesk", "InvalidSpot", "InvalidScript",
    "InvalidText", "InvalidRecord", "Filled", "Refused",
]
BARE_NAMES = ["NothingToUndo", "NothingToRedo"]


def any_objects():
    """Return new objects of every kind of point 2, many of them nearly what some function wants."""
    texts = ["a b", "b a", "()\n()", "a\n-a", "-a\na", "?", "? a", "? a\n  a\n  -a", "(): 1", "a: 0", "(): 1\na: 2", "0 1 a",
             "! a", "! ()", "a\n  ! b\n! -a b", "put\nend", "try\nend", "undo", "undo\n", "take 0", "take 00", "end"]
    words = ["", " ", "-", "--a", "a", "b", "-a", "-b", "c", "z", "-z", "abcdefgh", "-abcdefgh", "abcdefghi",
             "-abcdefghi", "A", "-A", "aB", "a1", "1", "a-", "a b", " a", "a ", "a\n", "\ta", "-a\n", "_", "`", "{",
             "None", "~", "()"]
    numbers = [None, True, False, 0, 1, 2, -1, 10 ** 29, -10 ** 29]
    within = [(word,) for word in words] + [[word] for word in words] + [(n,) for n in numbers] + [[n] for n in numbers]
    tuples = [(), ((),), ("a", "b"), ("b", "a"), ("a", "a"), ("-a", "a"), ("-a", "b"), ("a", "-b"), ("-b", "a"),
              ("-b", "-a"), ("-a", "-b", "a"), ("a", True), ("a", None), (1, "a"), ("a", ("b",)), (("a",), ("b",)),
              ("a", ["b"]), ("a", {}), ({"a": "b"},), ("-a", "b", "c"), ("-a", "-b", "c"), ("a", "b", "c")]
    lists = [[], [[]], [()], [("a",)], [("a",), ("a",)], [("b",), ("a",), ()], [["a"]], ["a", "b"], ["b", "a"],
             ["a", "a"], ["-a", "a"], ["-a", "b"], ["a", True], ["a", None], [("a",), None], [("a", "a")], ["a", ["b"]],
             [("a",), ["b"]], [("b", "a")], [("-a", "a")], [("a",), "b"], [("a", "b"), ()], ["c"], ["b", "c"]]
    dicts = [{}, {"a": "b"}, {"a": "a", "b": "b"}, {"a": "b", "b": "a"}, {"a": "c", "b": "c"}, {"a": "b", "b": "b"},
             {"-a": "b"}, {"a": "-b"}, {"a": None}, {"a": True}, {"a": 1}, {None: "a"}, {True: "a"}, {1: 0}, {"a": ["b"]},
             {"a": ("b",)}, {("a",): "b"}, {("a",): 1, (): 2}, {"a": {"a": "b"}}, {"a": "abcdefghi"}, {"A": "a"},
             {"a": "x", "b": "y", "c": "z"}, {"a": "x", "b": "y", "c": "x"}, {"a": "x", "b": "y", "": "z"},
             {"a": "x", "b": "y", "c": "z", "d": "w"}, {"a": "x", "b": "y", None: "z"}, {"a": "x", "b": "y", "c": []}]
    lists += [[("a", [("a",)]), ("-a",)], [("a", [("a", "b")]), ("b", [("a", "b")]), ("a", "b")], [("a", ("a",)), ()],
              [("b", [()]), ()], [("-b", [()]), ()], [("b", [("b", [()]), ()]), ()], [["b", [()]], ()], [("b", [])],
              [("b", [()])], [("c", [()]), ()], [("B", [()]), ()], [("b", [()], ()), ()], [("b",), ()], [(), ()],
              [(None, [()]), ()], [(0, [()]), ()], [(("a",), [()]), ()], [([], [()]), ()]]
    tuples += [("a", (), ()), ("b", (), ()), ("a", ("a",), ("-a",)), ("a", ("-a",), ("a",)), ("a", ("b", (), ()), ()),
               ("a", ("a", (), ()), ()), ("a", ("b", (), ()), ("b", (), ())), ["a", (), ()], ("a", [], ()), ("a", ()),
               ("a", (), (), ()), ("-a", (), ()), ("c", (), ()), ("A", (), ()), ((), (), ()), ("a", (), ("b", "c", ())),
               ("family", {(): 1}), ("family", {(): 2}), ("tree", ()), ["tree", ()], ("tree", (), ()), ("tree", []),
               ("family", ()), ("tree", {(): 1}), ("tree", ("a", ("-a",), ("a",))), ("", ()), (("tree",), ())]
    dicts += [{(): 1}, {(): 2}, {(): 0}, {(): True}, {(): -1}, {(): "a"}, {(): ()}, {(): ("a",)}, {"": 1}, {("a",): 1},
              {(): 2, ("a",): 1, ("-a",): 1}, {(): 2, ("a",): 2}, {(): 1, ("b", "a"): 1}, {(): 1, ("z",): 1},
              {(): 1, None: 1}, {(): 1, 0: 1}, {(): 1, "a": 1}, {(): ("a", ("-a",), ("a",))}, {("-a",): (), ("a",): ()}]
    tuples += [("signs", 1), ("signs", 2), ("signs", 0), ("signs", True), ("signs", "1"), ("signs", 27), ("ring", 1),
               ("ring", 2), ("chain", 1), ("copies", 1), ("copies", 1, 1), ("copies", 1, 0), ("guests", 2, 1),
               ("guests", 1, 1), ("signs", 1, 1), ["signs", 1], (0, 0, "a"), (0, 1, "b"), (True, 0, "a")]
    lists += [[("a",), ("-a",), (0, 1, "a")], [("a",), ("-a",), (1, 0, "a")], [("a",), ("-a",), (0, True, "a")],
              [("a",), ("-a",), (0, 1, "b")], [("a",), ("-a",), [0, 1, "a"]], [(0, 0, "a")], [(), (0, 0, "a")],
              [("a", "b"), ("-b", "a"), (0, 1, "b")], [(), ("a",)], [(), ("-a",), ("a",)], [(), ("-a",), ("-b",), ("a",)]]
    lists += [[("undo",)], [("undo", 0)], [("put", Book([("a",)]))], [("put", None)], [("put",)], [("take", 0)],
              [("take", True)], [("choose", 0, "a")], [("choose", 0, "A")], [("add", 0, ("a",))], [("add", 0, ("b", "a"))],
              [("lay", 0, 1)], [("force", 0, None)], [("try", [])], [("try", [("undo",)])], [("try", ())], [["undo"]],
              [("undo",), None], [("log",)], [("shown_spots", 8)], [("drop", 0, ())], [("a",), ("undo",)]]
    deep = [None, [()], (), ("a", (), ()), {}]
    for _ in range(30):
        deep = [[deep[0]], [("a", deep[1]), ()], (deep[2],), ("a", deep[3], ()), {(): deep[4]}]
    lists += deep
    own = [Book([]), Book([()]), Book([("a",), ("-b",)]), errors.LookError(), errors.InvalidClause(("a",)),
           errors.Refused()]
    own += [Desk(), [Desk()], {Desk(): 1}]
    own += [[Book([])], (Book([]),), {"a": Book([])}, ("a", Book([("b",)])), {errors.Refused(): "a"}]
    return texts + words + numbers + within + tuples + lists + dicts + own


def is_name(value):
    return isinstance(value, str) and re.fullmatch("[a-z]{1,8}", value) is not None


def is_signed_name(value):
    return isinstance(value, str) and re.fullmatch("-?[a-z]{1,8}", value) is not None


def is_row(value):
    """Whether any object is a clause."""
    if not isinstance(value, tuple) or not all(is_signed_name(entry) for entry in value):
        return False
    return list(value) == sorted(value) and len({entry.strip("-") for entry in value}) == len(value)


def is_rows(value):
    return isinstance(value, list) and all(is_row(entry) for entry in value)


def is_names(value):
    """Whether any object is an ascending list of variables."""
    return isinstance(value, list) and all(is_name(entry) for entry in value) and value == sorted(set(value))


def is_sent(value):
    """Whether any object is a dictionary from variables to unlike variables."""
    if not isinstance(value, dict) or not all(is_name(name) for name in [*value, *value.values()]):
        return False
    return len(set(value.values())) == len(value)


def is_book(value):
    return isinstance(value, Book)


def names_in(rows):
    """The ascending list of the variables in clauses."""
    return sorted({literal.strip("-") for row in rows for literal in row})


def row(*literals):
    return tuple(sorted(set(literals)))


def every_row(names, most=None):
    """All clauses of some variables, of at most so many literals."""
    rows = []
    for signs in itertools.product(["", "-", None], repeat=len(names)):
        rows.append(row(*[sign + name for sign, name in zip(signs, names) if sign is not None]))
    return [entry for entry in rows if most is None or len(entry) <= most]


def every_book(names, most_clauses):
    """All lists of at most so many unlike clauses of some variables."""
    rows = every_row(names)
    return [list(some) for many in range(most_clauses + 1) for some in itertools.combinations(rows, many)]


def assignments(names):
    """All dictionaries from variables to truth values."""
    return [dict(zip(names, values)) for values in itertools.product([True, False], repeat=len(names))]


def holds(literals, values):
    """Whether one of some literals is true in an assignment."""
    return any(values[literal.strip("-")] != literal.startswith("-") for literal in literals)


def all_hold(literals, values):
    """Whether each of some literals is true in an assignment."""
    return all(holds([literal], values) for literal in literals)


def satisfied(rows, values):
    return all(holds(entry, values) for entry in rows)


def satisfying(rows, names):
    """The assignments of some variables in which each clause is true."""
    return [values for values in assignments(names) if satisfied(rows, values)]


def shown(value):
    """A text that is the same only for values that are equal kind by kind, dictionaries in the order of their items."""
    if isinstance(value, Book):
        return f"Book({value.clauses()!r})"
    if isinstance(value, Desk):
        return "Desk(" + shown([value.log(), [(spot, value.set_there(spot)) for spot in value.spots()]]) + ")"
    if isinstance(value, list):
        return "[" + ", ".join(shown(entry) for entry in value) + "]"
    if isinstance(value, tuple):
        return "(" + "".join(shown(entry) + ", " for entry in value) + ")"
    if isinstance(value, dict):
        return "{" + ", ".join(shown(key) + ": " + shown(value[key]) for key in value) + "}"
    return repr(value)


def parameters(function):
    return list(inspect.signature(function).parameters)


def against(literal):
    """The contrary of a literal."""
    return literal[1:] if literal.startswith("-") else "-" + literal


def turned_around(literals):
    return row(*[against(literal) for literal in literals])


def is_broken(entry, literals):
    return all(against(literal) in literals for literal in entry)


def left_over(rows, literals):
    """The clauses that are left when some literals are set."""
    kept = [entry for entry in rows if not any(literal in literals for literal in entry)]
    return frozenset(tuple(literal for literal in entry if against(literal) not in literals) for entry in kept)


def both(names):
    """The ascending literals of some variables."""
    return sorted([*names, *["-" + name for name in names]])


def looked(rows, depth, backwards=False):
    """Whether looking at a depth shows some clauses, as point 22 says it, literals tried in either order."""
    return look_shows(frozenset(rows), depth, backwards)


@functools.lru_cache(None)
def look_shows(rows, depth, backwards):
    while () not in rows:
        if depth == 0:
            return False
        literals = sorted(both(names_in(rows)), reverse=backwards)
        failing = [literal for literal in literals if look_shows(left_over(rows, [literal]), depth - 1, backwards)]
        if not failing:
            return False
        rows = left_over(rows, [against(failing[0])])
    return True


@functools.lru_cache(None)
def can_fill(rows):
    return bool(satisfying(rows, names_in(rows)))


def seen_depth(rows):
    """The least depth at which looking shows some clauses, None if they can be filled."""
    rows = frozenset(rows)
    return None if can_fill(rows) else next(depth for depth in itertools.count() if looked(rows, depth))


def depths_of_all(rows):
    """The dictionary from ALL part-fillings to the least depths of their rests, None if they can be filled."""
    return {part: seen_depth(left_over(rows, part)) for part in every_row(names_in(rows))}


def is_look(rows, value, depth, literals=()):
    """Whether any object is a record of a look at a depth, or a lesser one, behind what is set."""
    if not isinstance(value, list) or not value:
        return False
    *tried, last = value
    names = names_in(rows)
    for entry in tried:
        if depth == 0 or not isinstance(entry, tuple) or len(entry) != 2 or not is_signed_name(entry[0]):
            return False
        name = entry[0].strip("-")
        if name not in names or name in [literal.strip("-") for literal in literals]:
            return False
        if not is_look(rows, entry[1], depth - 1, (*literals, against(entry[0]))):
            return False
        literals = (*literals, entry[0])
    return is_row(last) and last in rows and is_broken(last, literals)


def is_plan(rows, value, literals=()):
    """Whether any object is a tree of some clauses behind what is set."""
    if isinstance(value, tuple) and len(value) == 3 and is_name(value[0]) and not isinstance(value[1], str):
        name, high, low = value
        if name not in names_in(rows) or name in [literal.strip("-") for literal in literals]:
            return False
        return is_plan(rows, high, (*literals, name)) and is_plan(rows, low, (*literals, "-" + name))
    return is_row(value) and value in rows and is_broken(value, literals)


def is_leaf(plan):
    return all(isinstance(entry, str) for entry in plan)


def plan_order(plan):
    if is_leaf(plan):
        return 0
    high, low = plan_order(plan[1]), plan_order(plan[2])
    return high + 1 if high == low else max(high, low)


def plan_leaves(plan):
    return 1 if is_leaf(plan) else plan_leaves(plan[1]) + plan_leaves(plan[2])


def every_plan(rows, literals=(), late=True):
    """ALL trees of some clauses; without `late` those that end at the first broken clause on each way."""
    rows = sorted(rows)
    plans = [entry for entry in rows if is_broken(entry, literals)]
    if plans and not late:
        return plans
    for name in names_in(rows):
        if name not in literals and "-" + name not in literals:
            high = every_plan(rows, (*literals, name), late)
            low = every_plan(rows, (*literals, "-" + name), late)
            plans += [(name, one, other) for one in high for other in low]
    return plans


def plan_shapes(rows):
    """The set of pairs of order and leaves of ALL trees."""
    return shapes_behind(frozenset(rows), tuple(names_in(rows)))


@functools.lru_cache(None)
def shapes_behind(rows, names):
    shapes = {(0, 1)} if () in rows else set()
    for name in names if not can_fill(rows) else ():
        others = tuple(other for other in names if other != name)
        sides = [shapes_behind(left_over(rows, [literal]), others) for literal in (name, "-" + name)]
        for (one, few), (other, many) in itertools.product(*sides):
            shapes.add((one + 1 if one == other else max(one, other), few + many))
    return frozenset(shapes)


def is_score(rows, value):
    """Whether any object is a family with points of some clauses."""
    names = names_in(rows)
    if not isinstance(value, dict) or not all(is_row(part) and set(names_in([part])) <= set(names) for part in value):
        return False
    if not all(isinstance(many, int) and not isinstance(many, bool) and many >= 1 for many in value.values()):
        return False
    if () not in value or any(is_broken(entry, part) for part in value for entry in rows):
        return False
    for part, many in value.items():
        for name in set(names) - set(names_in([part])):
            high, low = [value.get(row(*part, literal), 0) for literal in (name, "-" + name)]
            if many > 1 and high < many and low < many and not (high >= many - 1 and low >= many - 1):
                return False
    return True


def pseudo_books(seed, many, names, clauses, longest, shortest=1):
    """Lists of clauses of some variables, as a fixed chance makes them; all names stand in each of them."""
    chance = random.Random(seed)
    found = []
    while len(found) < many:
        rows = set()
        for _ in range(clauses):
            some = chance.sample(names, chance.randint(shortest, min(longest, len(names))))
            rows.add(row(*[chance.choice(["", "-"]) + name for name in some]))
        if names_in(rows) == sorted(names):
            found.append(sorted(rows))
    return found


def signs(names):
    """All clauses with each of some variables, with or without sign."""
    return [entry for entry in every_row(names) if len(entry) == len(names)]


def ring(names):
    pairs = list(zip(names, names[1:]))
    rows = [row("-" + one, other) for one, other in pairs] + [row(one, "-" + other) for one, other in pairs]
    return rows + [row(names[0], names[-1]), row("-" + names[0], "-" + names[-1])]


def chain(names):
    return [(names[0],), *[row("-" + one, other) for one, other in zip(names, names[1:])], ("-" + names[-1],)]


def copies(many, times):
    """All clauses of so many letters, each written as all its copies, and a ring of each letter's copies."""
    names = {letter: [letter + copy for copy in "abcdefgh"[:times]] for letter in "abcd"[:many]}
    rows = [row(*[literal.replace(literal[-1], name) for literal in entry for name in names[literal[-1]]])
            for entry in signs(sorted(names))]
    if times > 1:
        rows += [row("-" + one, other) for same in names.values() for one, other in zip(same, same[1:] + same[:1])]
    return rows


def guests(many, rooms):
    names = [[guest + room for room in "abcd"[:rooms]] for guest in "abcdefgh"[:many]]
    pairs = itertools.combinations(names, 2)
    return [row(*own) for own in names] + [row("-" + one, "-" + other) for pair in pairs for one, other in zip(*pair)]


def scramble(value):
    """Change all lists and dictionaries within something that was returned."""
    within = list(value.values()) if isinstance(value, dict) else value if isinstance(value, (list, tuple)) else []
    for entry in within:
        scramble(entry)
    if isinstance(value, (list, dict)):
        value.clear()


def ascends(value):
    """Whether the keys of all dictionaries within something ascend."""
    if isinstance(value, dict):
        return list(value) == sorted(value) and all(ascends(entry) for entry in value.values())
    return all(ascends(entry) for entry in value) if isinstance(value, (list, tuple)) else True


class FailsCase(unittest.TestCase):
    """A test that checks the very error of a call, and what it holds."""

    def fails(self, error, held, function, *arguments):
        with self.assertRaises(error) as seen:
            function(*arguments)
        self.assertIs(seen.exception.__class__, error)
        self.assertIs(seen.exception.value, held)
