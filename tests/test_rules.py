"""Points 1 and 2, for every function of the landed modules."""

import itertools
import unittest

from lookdepths import (
    books, clauses, depths, desk, fillings, joins, lemmas, looks, makes, opponents, papers, parts, scripts, trees,
)
from lookdepths import errors as wrong
from lookdepths.books import Book
from lookdepths.desk import Desk
from tests.helper import (
    against, any_objects, ascends, is_book, is_look, is_name, is_names, is_plan, is_row, is_rows, is_score, is_sent,
    is_signed_name, parameters, scramble, shown,
)

BOOK = Book([("-a", "b"), ("b", "c"), ("-c",), ()])
APART = Book([("x", "y"), ("-x",)])
ABC = ["a", "b", "c"]
SENT = {"abcdefgh": "c", "z": "abcdefgh", "c": "q", "b": "a", "a": "b"}


def is_part_of_abc(value):
    return is_row(value) and all(literal.strip("-") in ABC for literal in value)


def is_literal_of_abc(value):
    return is_signed_name(value) and value.strip("-") in ABC


def are_literals(value):
    """Whether any object is a list of literals of which no two are contrary."""
    if not isinstance(value, list) or not all(is_signed_name(entry) for entry in value):
        return False
    return is_row(tuple(sorted(set(value))))


def is_sent_from(names, exactly):
    def judge(value):
        if not is_sent(value):
            return False
        return sorted(value) == names if exactly else all(name in value for name in names)
    return judge


BOOK_ARGUMENT = ("book", wrong.InvalidBook, is_book, BOOK)
PART = ("part", wrong.InvalidFilling, is_part_of_abc, ("-a",))
CLAUSE = ("clause", wrong.InvalidClause, is_row, ("-a", "b"))
LITERAL = ("literal", wrong.InvalidLiteral, is_signed_name, "-a")
VALUE = ("value", None, None, ("-a",))
ONE, OTHER = ("one", wrong.InvalidClause, is_row, ("-b", "a")), ("other", wrong.InvalidClause, is_row, ("a", "b"))
ONE_BOOK, OTHER_BOOK = ("one", wrong.InvalidBook, is_book, BOOK), ("other", wrong.InvalidBook, is_book, APART)

# Each function with its parameters: the name, the error, what tells whether it is right, and one that is.
CLAUSE_CALLS = [
    (clauses.contrary, [LITERAL]),
    (clauses.variable_of, [LITERAL]),
    (clauses.is_literal, [VALUE]),
    (clauses.is_clause, [VALUE]),
    (clauses.clause_of, [("literals", wrong.InvalidClause, are_literals, ["b", "-a", "b"])]),
    (clauses.variables_in, [CLAUSE]),
    (clauses.is_within, [ONE, OTHER]),
    (clauses.common, [ONE, OTHER]),
    (clauses.united, [ONE, ("other", wrong.InvalidClause, is_row, ("a", "c"))]),
    (clauses.meeting, [ONE, OTHER]),
    (clauses.put_together, [ONE, OTHER]),
    (clauses.turned, [CLAUSE, ("variables", wrong.InvalidMap, is_names, ["a", "z"])]),
    (clauses.renamed, [CLAUSE, ("sent", wrong.InvalidMap, is_sent_from(["a", "b"], False), SENT)]),
]
BOOK_CALLS = [
    (Book, [("clauses", wrong.InvalidClauses, is_rows, [("b",), (), ("b",)])]),
    (books.is_part, [BOOK_ARGUMENT, VALUE]),
    (books.rest, [BOOK_ARGUMENT, PART]),
    (books.broken, [BOOK_ARGUMENT, PART]),
    (books.kept, [BOOK_ARGUMENT, PART]),
    (books.is_filling, [BOOK_ARGUMENT, VALUE]),
    (books.all_parts, [BOOK_ARGUMENT]),
    (books.set_also, [BOOK_ARGUMENT, PART, ("literal", wrong.InvalidLiteral, is_literal_of_abc, "b")]),
    (books.shrunk, [BOOK_ARGUMENT]),
    (books.with_clause, [BOOK_ARGUMENT, CLAUSE[:3] + (("z",),)]),
    (books.without_clause, [BOOK_ARGUMENT, CLAUSE]),
    (books.turned_book, [BOOK_ARGUMENT, (
        "variables", wrong.InvalidMap, lambda value: is_names(value) and all(name in ABC for name in value), ["a"])]),
    (books.renamed_book, [BOOK_ARGUMENT, (
        "sent", wrong.InvalidMap, is_sent_from(ABC, True), {"a": "c", "b": "a", "c": "b"})]),
    (books.side_by_side, [ONE_BOOK, OTHER_BOOK]),
    (books.pieces, [BOOK_ARGUMENT]),
    (books.either, [ONE_BOOK, OTHER_BOOK, (
        "variable", wrong.InvalidVariable, lambda value: is_name(value) and value not in ABC + ["x", "y"], "z")]),
]

# A book that can't be filled, of depth 2, and its papers; a book that can be filled and hides that "a" follows.
TWO = Book([("a", "b"), ("-b", "a"), ("-a", "b"), ("-a", "-b")])
HIDDEN = Book([("a", "b"), ("-b", "a")])
RECORD = [("a", [("b", [("a", "b")]), ("-b", "a")]), ("b", [("-a", "b")]), ("-a", "-b")]
TREE = ("a", ("b", ("-a", "-b"), ("-a", "b")), ("b", ("-b", "a"), ("a", "b")))
FAMILY = {("a",): 1, (): 2, ("-a",): 1, ("-b",): 1, ("b",): 1}


def is_number(value):
    return isinstance(value, int) and not isinstance(value, bool) and value >= 0


def is_number_from_one(value):
    return is_number(value) and value >= 1


def is_order_of_two(value):
    return isinstance(value, list) and value in [["a", "b"], ["b", "a"]]


def is_record_of_two(value):
    return is_look(TWO.clauses(), value, 2)


def is_tree_of_two(value):
    return is_plan(TWO.clauses(), value)


def is_family_of_two(value):
    return is_score(TWO.clauses(), value)


def is_part_of_two(value):
    return is_row(value) and all(literal.strip("-") in ["a", "b"] for literal in value)


def asked_in(value):
    """The variables at the places of a tree by its form, None at what is none."""
    if isinstance(value, tuple) and all(isinstance(entry, str) for entry in value):
        return [] if is_row(value) else [None]
    if not isinstance(value, tuple) or len(value) != 3 or not is_name(value[0]):
        return [None]
    return [value[0], *asked_in(value[1]), *asked_in(value[2])]


def is_tree_apart(value):
    asked = asked_in(value)
    return None not in asked and len(set(asked)) == len(asked)


TWO_BOOK, HIDDEN_BOOK = ("book", wrong.InvalidBook, is_book, TWO), ("book", wrong.InvalidBook, is_book, HIDDEN)
DEPTH = ("depth", wrong.InvalidDepth, is_number, 2)
NO_DEPTH = ("depth", wrong.InvalidDepth, is_number, 1)
ORDER = ("order", wrong.InvalidNumber, is_number, 2)
POINTS = ("points", wrong.InvalidNumber, is_number_from_one, 2)
RECORD_ARGUMENT = ("record", wrong.InvalidLook, is_record_of_two, RECORD)
TREE_ARGUMENT = ("tree", wrong.InvalidTree, is_tree_of_two, TREE)
FAMILY_ARGUMENT = ("family", wrong.InvalidPoints, is_family_of_two, FAMILY)
PART_OF_TWO = ("part", wrong.InvalidFilling, is_part_of_two, ("-b",))
WHOLE = ("part", wrong.InvalidFilling, lambda value: is_part_of_two(value) and len(value) == 2, ("-a", "b"))
CLAUSE_OF_HIDDEN = ("clause", wrong.InvalidClause, is_part_of_two, ("a",))
LOOK_CALLS = [
    (looks.shows, [TWO_BOOK, DEPTH]),
    (looks.forced, [HIDDEN_BOOK, DEPTH]),
    (looks.left_by, [HIDDEN_BOOK, DEPTH]),
    (looks.shown_literals, [TWO_BOOK, NO_DEPTH]),
    (looks.forced_by, [TWO_BOOK, DEPTH, ("order", wrong.InvalidVariable, is_order_of_two, ["b", "a"])]),
    (looks.is_record, [TWO_BOOK, DEPTH, VALUE]),
    (looks.record_of, [TWO_BOOK, DEPTH]),
    (looks.least_depth, [TWO_BOOK]),
    (looks.depth_at, [TWO_BOOK, PART_OF_TWO]),
    (looks.clauses_in, [TWO_BOOK, RECORD_ARGUMENT]),
    (looks.depth_of_record, [TWO_BOOK, RECORD_ARGUMENT]),
    (looks.depths_below, [TWO_BOOK]),
]
DEPTH_CALLS = [
    (depths.follows, [HIDDEN_BOOK, CLAUSE_OF_HIDDEN]),
    (depths.least_following, [HIDDEN_BOOK]),
    (depths.is_least, [HIDDEN_BOOK, CLAUSE_OF_HIDDEN]),
    (depths.seen_at, [HIDDEN_BOOK, CLAUSE_OF_HIDDEN]),
    (depths.depth_of, [HIDDEN_BOOK]),
    (depths.deepest, [HIDDEN_BOOK]),
    (depths.is_deepest, [HIDDEN_BOOK, VALUE]),
    (depths.is_closed, [HIDDEN_BOOK, DEPTH]),
    (depths.unseen, [HIDDEN_BOOK, ("depth", wrong.InvalidDepth, is_number, 0)]),
    (depths.all_depths, [HIDDEN_BOOK]),
    (depths.depths_counted, [HIDDEN_BOOK]),
    (depths.closing, [HIDDEN_BOOK]),
    (depths.is_closing, [HIDDEN_BOOK, DEPTH, VALUE]),
]
TREE_CALLS = [
    (trees.is_tree, [TWO_BOOK, VALUE]),
    (trees.order_of, [TWO_BOOK, TREE_ARGUMENT]),
    (trees.leaves_of, [TWO_BOOK, TREE_ARGUMENT]),
    (trees.least_tree, [TWO_BOOK]),
    (trees.is_least_tree, [TWO_BOOK, VALUE]),
    (trees.tree_of_record, [TWO_BOOK, RECORD_ARGUMENT]),
    (trees.record_of_tree, [TWO_BOOK, TREE_ARGUMENT]),
    (trees.fewest_leaves, [TWO_BOOK]),
    (trees.fewest_at, [TWO_BOOK, ORDER]),
    (trees.tree_of_fewest, [TWO_BOOK, ORDER]),
    (trees.is_tree_of_fewest, [TWO_BOOK, ORDER, VALUE]),
    (trees.leaves_by_order, [TWO_BOOK]),
    (trees.leaf_at, [TWO_BOOK, TREE_ARGUMENT, WHOLE]),
    (trees.asked_on, [TWO_BOOK, TREE_ARGUMENT, WHOLE]),
    (trees.ways_to_leaves, [TWO_BOOK, TREE_ARGUMENT]),
    (trees.heights, [TWO_BOOK, TREE_ARGUMENT]),
    (trees.book_of_tree, [("tree", wrong.InvalidTree, is_tree_apart, ("b", ("a", (), ("z",)), ()))]),
]
OPPONENT_CALLS = [
    (opponents.are_points, [TWO_BOOK, VALUE]),
    (opponents.points_of, [TWO_BOOK, FAMILY_ARGUMENT]),
    (opponents.family_for, [TWO_BOOK, POINTS]),
    (opponents.is_family_for, [TWO_BOOK, POINTS, VALUE]),
    (opponents.greatest_points, [TWO_BOOK]),
    (opponents.said, [TWO_BOOK, FAMILY_ARGUMENT, (
        "part", wrong.InvalidFilling, lambda value: is_part_of_two(value) and value in FAMILY, ("a",)), (
        "variable", wrong.InvalidVariable, lambda value: value == "b", "b")]),
    (opponents.played, [TWO_BOOK, FAMILY_ARGUMENT, TREE_ARGUMENT]),
    (opponents.weakest_places, [TWO_BOOK, FAMILY_ARGUMENT]),
    (opponents.thinned, [TWO_BOOK, FAMILY_ARGUMENT]),
    (opponents.is_thinned, [TWO_BOOK, FAMILY_ARGUMENT, VALUE]),
    (opponents.paper_for, [TWO_BOOK, POINTS]),
    (opponents.is_paper_for, [TWO_BOOK, ("points", wrong.InvalidNumber, is_number_from_one, 3), VALUE]),
]

# A derivation from TWO that ends, a make, and books side by side.
LINES = [("a", "b"), ("-b", "a"), (0, 1, "b"), ("-a", "b"), ("-a", "-b"), (3, 4, "b"), (2, 5, "a")]
CLOSED = [(), ("-a",), ("-b",), ("a",), ("b",)]


def is_derivation_of_two(value):
    """Whether any object is a derivation from TWO."""
    clauses_so_far = []
    for line in value if isinstance(value, list) else [None]:
        if is_row(line) and line in TWO.clauses():
            clauses_so_far.append(line)
            continue
        if not isinstance(line, tuple) or len(line) != 3 or line[2] not in ["a", "b"]:
            return False
        if not all(is_number(at) and at < len(clauses_so_far) for at in line[:2]):
            return False
        one, other = [clauses_so_far[at] for at in line[:2]]
        if {literal.strip("-") for literal in one if against(literal) in other} != {line[2]}:
            return False
        clauses_so_far.append(tuple(sorted({literal for literal in one + other if literal.strip("-") != line[2]})))
    return True


def is_told_make(value):
    """Whether any object is a make of which all is told, within the limits."""
    kinds = {"signs": (1,), "ring": (2,), "chain": (1,), "copies": (1, 1), "guests": (1, 1)}
    if not isinstance(value, tuple) or not value or not isinstance(value[0], str) or value[0] not in kinds:
        return False
    least = kinds[value[0]]
    if len(value) != len(least) + 1 or not all(is_number(many) for many in value[1:]):
        return False
    fits = all(low <= many <= 26 for low, many in zip(least, value[1:]))
    return fits and (value[0] != "guests" or value[1] > value[2])


def is_told_in_full(value):
    return is_told_make(value) and value[0] != "guests"


WIDTH = ("width", wrong.InvalidNumber, is_number, 2)
NO_WIDTH = ("width", wrong.InvalidNumber, is_number, 0)
DERIVATION = ("derivation", wrong.InvalidDerivation, is_derivation_of_two, LINES)
PART_OF_HIDDEN = ("part", wrong.InvalidFilling, is_part_of_two, ())
MAKE = ("make", wrong.InvalidMake, is_told_make, ("copies", 1, 2))
FULL_MAKE = ("make", wrong.InvalidMake, is_told_in_full, ("ring", 3))
JOIN_CALLS = [
    (joins.partners, [TWO_BOOK, ("clause", wrong.InvalidClause, is_row, ("a", "z"))]),
    (joins.made_with, [TWO_BOOK, ("clause", wrong.InvalidClause, is_row, ("a", "b"))]),
    (joins.is_derivation, [TWO_BOOK, VALUE]),
    (joins.clauses_by, [TWO_BOOK, DERIVATION]),
    (joins.width_of, [TWO_BOOK, DERIVATION]),
    (joins.one_sided_of, [TWO_BOOK, DERIVATION]),
    (joins.makes, [TWO_BOOK, WIDTH]),
    (joins.one_sided_makes, [TWO_BOOK, WIDTH]),
    (joins.least_width, [TWO_BOOK]),
    (joins.least_one_sided, [TWO_BOOK]),
    (joins.ending, [TWO_BOOK, WIDTH]),
    (joins.is_ending, [TWO_BOOK, WIDTH, VALUE]),
    (joins.one_sided_ending, [TWO_BOOK, WIDTH]),
    (joins.is_one_sided_ending, [TWO_BOOK, WIDTH, VALUE]),
    (joins.is_closed_family, [TWO_BOOK, WIDTH, VALUE]),
    (joins.closed_family, [TWO_BOOK, NO_WIDTH]),
    (joins.is_broad_family, [TWO_BOOK, WIDTH, VALUE]),
    (joins.broad_family, [TWO_BOOK, NO_WIDTH]),
    (joins.ending_by_record, [TWO_BOOK, RECORD_ARGUMENT]),
    (joins.is_ending_by_record, [TWO_BOOK, RECORD_ARGUMENT, VALUE]),
    (joins.points_of_broad, [TWO_BOOK, ("width", wrong.InvalidNumber, is_number, 1)]),
]
FILLING_CALLS = [
    (fillings.fillings_of, [HIDDEN_BOOK]),
    (fillings.many_fillings, [HIDDEN_BOOK]),
    (fillings.any_filling, [HIDDEN_BOOK]),
    (fillings.sure_literals, [HIDDEN_BOOK]),
    (fillings.may_set, [HIDDEN_BOOK, PART_OF_HIDDEN, DEPTH]),
    (fillings.first_way, [HIDDEN_BOOK, PART_OF_HIDDEN, DEPTH]),
    (fillings.is_way, [HIDDEN_BOOK, PART_OF_HIDDEN, DEPTH, VALUE]),
    (fillings.goes_through, [HIDDEN_BOOK, DEPTH]),
    (fillings.traps, [HIDDEN_BOOK, ("depth", wrong.InvalidDepth, is_number, 0)]),
    (fillings.any_trap, [HIDDEN_BOOK, ("depth", wrong.InvalidDepth, is_number, 0)]),
    (fillings.is_trap, [HIDDEN_BOOK, ("depth", wrong.InvalidDepth, is_number, 0), VALUE]),
    (fillings.sure_depth, [HIDDEN_BOOK]),
    (fillings.looks_used, [HIDDEN_BOOK, PART_OF_HIDDEN, DEPTH]),
]
MAKE_CALLS = [
    (makes.book_of, [MAKE]),
    (makes.depth_told, [MAKE]),
    (makes.leaves_told, [FULL_MAKE]),
    (makes.widths_told, [FULL_MAKE]),
    (makes.tree_told, [MAKE]),
    (makes.points_told, [MAKE]),
    (makes.is_short, [TWO_BOOK]),
    (makes.is_single, [TWO_BOOK]),
]
PARTS_CALLS = [
    (parts.depth_beside, [("one", wrong.InvalidBook, is_book, TWO), ("other", wrong.InvalidBook, is_book, APART)]),
    (parts.depth_by_pieces, [TWO_BOOK]),
    (parts.cores, [TWO_BOOK]),
    (parts.any_core, [TWO_BOOK]),
    (parts.is_core, [TWO_BOOK, VALUE]),
    (parts.core_depths, [TWO_BOOK]),
    (parts.needed_clauses, [TWO_BOOK]),
    (parts.depths_of_values, [TWO_BOOK, ("variable", wrong.InvalidVariable, lambda value: value in ["a", "b"], "b")]),
    (parts.keeping_literals, [TWO_BOOK]),
    (parts.splitting_variables, [TWO_BOOK]),
    (parts.first_places, [TWO_BOOK]),
]

# A desk with a book, a log and a script for it, and papers by their forms.
DESK = Desk()
DESK.put(HIDDEN)
DESK.choose(0, "a")
LOG = [("put", TWO), ("choose", 1, "b"), ("take", 0)]
SCRIPT = [("put", HIDDEN), ("try", [("choose", 0, "a"), ("undo",)]), ("least_there", 0)]
SIZES = {"put": 1, "take": 1, "choose": 2, "back": 2, "force": 2, "add": 2, "drop": 2, "lay": 2}
KINDS = {**{word: [is_number, is_number] for word in ["force", "lay", "is_shown"]},
         **{word: [is_number, is_signed_name] for word in ["choose", "back"]},
         **{word: [is_number, is_row] for word in ["add", "drop"]},
         **{word: [is_number] for word in ["take", "set_there", "least_there", "alike_spots", "shown_spots"]},
         "put": [is_book], "undo": [], "redo": [], "try": [lambda value: is_told_script(value)]}


def is_desk(value):
    return isinstance(value, Desk)


def is_log(value):
    if not isinstance(value, list) or not all(isinstance(entry, tuple) and entry for entry in value):
        return False
    return all(isinstance(entry[0], str) and len(entry) - 1 == SIZES.get(entry[0]) for entry in value)


def is_told_script(value):
    if not isinstance(value, list) or not all(isinstance(entry, tuple) and entry for entry in value):
        return False
    for word, *things in value:
        kinds = KINDS.get(word) if isinstance(word, str) else None
        if kinds is None or len(kinds) != len(things) or not all(kind(thing) for kind, thing in zip(kinds, things)):
            return False
    return True


def is_form_of_tree(value):
    return None not in asked_in(value)


def is_form_of_points(value):
    return isinstance(value, dict) and all(is_row(part) and is_number_from_one(value[part]) for part in value)


def is_form_of_lines(value):
    return isinstance(value, list) and all(is_row(line) or isinstance(line, tuple) and len(line) == 3 and is_name(line[2])
                                           and is_number(line[0]) and is_number(line[1]) for line in value)


def is_form_of_look(value):
    if not isinstance(value, list) or not value or not is_row(value[-1]):
        return False
    return all(isinstance(entry, tuple) and len(entry) == 2 and is_signed_name(entry[0]) and is_form_of_look(entry[1])
               for entry in value[:-1])


def is_text_of(*texts):
    return lambda value: isinstance(value, str) and value in texts


def is_clause_line(line):
    return line == "()" or is_row(tuple(line.split(" ")))


def is_text_of_rows(value):
    return isinstance(value, str) and (not value or all(is_clause_line(line) for line in value.split("\n")))


def is_text_of_book(value):
    if not value or not is_text_of_rows(value):
        return value == ""
    rows = [() if line == "()" else tuple(line.split(" ")) for line in value.split("\n")]
    return rows == sorted(set(rows))


def is_text_of_lines(value):
    return isinstance(value, str) and (value == "0 1 a" or is_text_of_rows(value))


def is_text_of_tree(value):
    return isinstance(value, str) and (value == "? a\n  a\n  -a" or is_clause_line(value))


TEXT = "text", wrong.InvalidText
DESK_ARGUMENT = ("desk", wrong.InvalidDesk, is_desk, DESK)
SCRIPT_ARGUMENT = ("script", wrong.InvalidScript, is_told_script, SCRIPT)
NUMBER = ("number", wrong.InvalidNumber, is_number, 1)
LEMMA_CALLS = [
    (lemmas.gain_of, [HIDDEN_BOOK, CLAUSE_OF_HIDDEN]),
    (lemmas.gains, [TWO_BOOK, NUMBER]),
    (lemmas.best_lemmas, [TWO_BOOK, NUMBER]),
    (lemmas.is_row, [TWO_BOOK, DEPTH, VALUE]),
    (lemmas.row_of_tree, [TWO_BOOK, TREE_ARGUMENT]),
    (lemmas.fewest_lemmas, [TWO_BOOK, NO_DEPTH]),
    (lemmas.shortest_row, [TWO_BOOK, NO_DEPTH]),
]
DESK_CALLS = [
    (Desk, []),
    (desk.replayed, [DESK_ARGUMENT, ("log", wrong.InvalidRecord, is_log, LOG)]),
]
SCRIPT_CALLS = [
    (scripts.play, [("desk", wrong.InvalidDesk, is_desk, Desk()), (
        "script", wrong.InvalidScript, is_told_script, [("least_there", 0), ("try", [("put", TWO)])])]),
    (scripts.script_text, [SCRIPT_ARGUMENT]),
    (scripts.read_script, [(*TEXT, is_text_of("", "undo", "take 0", "put\nend", "try\nend"), "undo")]),
    (scripts.end_of, [SCRIPT_ARGUMENT]),
    (scripts.shortened, [SCRIPT_ARGUMENT]),
]
PAPER_CALLS = [
    (papers.book_text, [TWO_BOOK]),
    (papers.read_book, [(*TEXT, is_text_of_book, "-a\na")]),
    (papers.parts_text, [("parts", wrong.InvalidFamily, is_rows, [("a",), ()])]),
    (papers.read_parts, [(*TEXT, is_text_of_rows, "a\n-a")]),
    (papers.tree_text, [("tree", wrong.InvalidTree, is_form_of_tree, TREE)]),
    (papers.read_tree, [(*TEXT, is_text_of_tree, "? a\n  a\n  -a")]),
    (papers.points_text, [("points", wrong.InvalidPoints, is_form_of_points, FAMILY)]),
    (papers.read_points, [(*TEXT, is_text_of("", "(): 1", "(): 1\na: 2"), "(): 1\na: 2")]),
    (papers.derivation_text, [("lines", wrong.InvalidDerivation, is_form_of_lines, LINES)]),
    (papers.read_derivation, [(*TEXT, is_text_of_lines, "0 1 a")]),
    (papers.look_text, [("look", wrong.InvalidLook, is_form_of_look, RECORD)]),
    (papers.read_look, [(*TEXT, is_text_of("! a", "! ()", "a\n  ! b\n! -a b"), "a\n  ! b\n! -a b")]),
]
MODULES = [(clauses, CLAUSE_CALLS), (books, BOOK_CALLS), (looks, LOOK_CALLS), (depths, DEPTH_CALLS),
           (trees, TREE_CALLS), (opponents, OPPONENT_CALLS), (joins, JOIN_CALLS), (fillings, FILLING_CALLS),
           (makes, MAKE_CALLS), (parts, PARTS_CALLS), (lemmas, LEMMA_CALLS), (desk, DESK_CALLS), (scripts, SCRIPT_CALLS),
           (papers, PAPER_CALLS)]
CALLS = [call for _, calls in MODULES for call in calls]

# Calls that are Refused, and the position of the argument that the error holds.
REFUSED = [
    (clauses.united, [("a",), ("-a", "b")], 1),
    (clauses.put_together, [("a",), ("a", "b")], 1),
    (clauses.put_together, [("a", "b"), ("-a", "-b")], 1),
    (books.set_also, [BOOK, ("-a", "b"), "a"], 2),
    (books.set_also, [BOOK, ("-a", "b"), "b"], 2),
    (books.with_clause, [BOOK, ("-a", "b")], 1),
    (books.without_clause, [BOOK, ("b",)], 1),
    (books.side_by_side, [BOOK, Book([("c", "d")])], 1),
    (books.either, [BOOK, Book([("c", "d")]), "e"], 1),
    (looks.forced, [TWO, 2], 0),
    (looks.forced, [BOOK, 0], 0),
    (looks.left_by, [TWO, 3], 0),
    (looks.record_of, [TWO, 1], 0),
    (looks.record_of, [HIDDEN, 8], 0),
    (depths.is_least, [HIDDEN, ("b",)], 1),
    (depths.seen_at, [HIDDEN, ()], 1),
    (opponents.family_for, [TWO, 3], 1),
    (opponents.family_for, [BOOK, 1], 1),
    (opponents.greatest_points, [BOOK], 0),
    (joins.ending, [TWO, 0], 1),
    (joins.ending, [HIDDEN, 60], 1),
    (joins.one_sided_ending, [TWO, 1], 1),
    (joins.one_sided_ending, [Book([]), 0], 1),
    (joins.closed_family, [TWO, 1], 1),
    (joins.closed_family, [BOOK, 0], 1),
    (joins.broad_family, [TWO, 2], 1),
    (joins.broad_family, [BOOK, 0], 1),
    (joins.points_of_broad, [TWO, 2], 1),
    (fillings.sure_literals, [TWO], 0),
    (fillings.sure_depth, [TWO], 0),
    (fillings.sure_depth, [BOOK], 0),
    (parts.depth_beside, [TWO, HIDDEN], 1),
    (parts.depth_beside, [BOOK, BOOK], 1),
    (lemmas.gain_of, [HIDDEN, ("b",)], 1),
    (lemmas.fewest_lemmas, [TWO, 0], 1),
    (lemmas.shortest_row, [TWO, 0], 1),
]
# Calls of what can be filled, and the position of the argument that the error holds.
FILLED = [
    (looks.least_depth, [HIDDEN], 0),
    (looks.least_depth, [Book([])], 0),
    (looks.depth_at, [HIDDEN, ("b",)], 1),
    (looks.depth_at, [Book([]), ()], 1),
    (trees.least_tree, [HIDDEN], 0),
    (trees.fewest_leaves, [Book([])], 0),
    (trees.fewest_leaves, [HIDDEN], 0),
    (trees.fewest_at, [HIDDEN, 0], 0),
    (trees.fewest_at, [HIDDEN, 8], 0),
    (trees.tree_of_fewest, [HIDDEN, 0], 0),
    (trees.tree_of_fewest, [Book([]), 8], 0),
    (trees.leaves_by_order, [HIDDEN], 0),
    (trees.leaves_by_order, [Book([])], 0),
    (opponents.greatest_points, [HIDDEN], 0),
    (opponents.greatest_points, [Book([])], 0),
    (joins.least_width, [HIDDEN], 0),
    (joins.least_one_sided, [Book([])], 0),
    (parts.needed_clauses, [HIDDEN], 0),
    (parts.depths_of_values, [HIDDEN, "a"], 0),
    (parts.keeping_literals, [HIDDEN], 0),
    (parts.splitting_variables, [Book([])], 0),
    (parts.first_places, [HIDDEN], 0),
    (lemmas.fewest_lemmas, [HIDDEN, 0], 0),
    (lemmas.fewest_lemmas, [HIDDEN, 1], 0),
    (lemmas.shortest_row, [Book([]), 0], 0),
]
# One of each kind that is wrong for whatever has an error.
WRONG = [None, True, -1, "A", ["A"], ("A",), {"A": "a"}]


def right_arguments(rows):
    return [row[3] for row in rows]


class RulesTest(unittest.TestCase):
    def fails(self, function, arguments, error, held):
        """Check that a call raises just this error, which holds the very object."""
        with self.assertRaises(error) as seen:
            function(*arguments)
        self.assertIs(seen.exception.__class__, error)
        self.assertIs(seen.exception.value, held)

    def test_parameters_have_the_names_of_the_interface(self):
        for function, rows in CALLS:
            self.assertEqual(parameters(function), [row[0] for row in rows], function)

    def test_by_position_and_by_name_are_the_same(self):
        for function, rows in CALLS:
            by_name = function(**{row[0]: row[3] for row in reversed(rows)})
            self.assertEqual(shown(function(*right_arguments(rows))), shown(by_name), function)

    def test_every_other_object_is_wrong_and_is_held(self):
        for function, rows in CALLS:
            for at, (name, error, is_right, _) in enumerate(rows):
                for value in [value for value in any_objects() if error and not is_right(value)]:
                    arguments = right_arguments(rows)
                    arguments[at] = value
                    with self.subTest(function=function.__name__, name=name, value=value):
                        before = shown(arguments)
                        self.fails(function, arguments, error, value)
                        self.assertEqual(shown(arguments), before)

    def test_every_right_object_is_taken(self):
        for function, rows in CALLS:
            for at, (name, error, is_right, _) in enumerate(rows):
                for value in [value for value in any_objects() if error and is_right(value)]:
                    arguments = right_arguments(rows)
                    arguments[at] = value
                    with self.subTest(function=function.__name__, name=name, value=value):
                        try:
                            function(*arguments)
                        except wrong.LookError as caught:
                            # What the later arguments have to be hangs on the book, in `said` on all ahead; and
                            # what stands in a log is told by the commands, one by one.
                            hangs = error is wrong.InvalidBook or function in [opponents.said, desk.replayed]
                            self.assertTrue(hangs or caught.__class__ in [wrong.Refused, wrong.Filled])
                            self.assertIsNot(caught.__class__, error)

    def test_the_first_wrong_argument_decides(self):
        for function, rows in CALLS:
            for at, (_, error, _, _) in enumerate(rows):
                for first in WRONG if error else []:
                    for later in WRONG:
                        arguments = right_arguments(rows)[:at] + [first] + [later] * (len(rows) - at - 1)
                        with self.subTest(function=function.__name__, at=at, first=first, later=later):
                            self.fails(function, arguments, error, first)

    def test_refused_and_filled_hold_the_named_argument(self):
        for calls, error in [(REFUSED, wrong.Refused), (FILLED, wrong.Filled)]:
            for function, arguments, held in calls:
                with self.subTest(function=function.__name__, arguments=shown(arguments)):
                    before = shown(arguments)
                    self.fails(function, arguments, error, arguments[held])
                    self.assertEqual(shown(arguments), before)

    def test_refused_and_filled_come_behind_all_other_errors(self):
        rows_of = {function.__name__: rows for function, rows in CALLS}
        for function, arguments, _ in REFUSED + FILLED:
            for at, (_, error, _, _) in enumerate(rows_of[function.__name__]):
                for value in WRONG:
                    changed = arguments[:at] + [value] + arguments[at + 1:]
                    with self.subTest(function=function.__name__, at=at, value=value):
                        self.fails(function, changed, error, value)

    def test_a_variable_that_one_book_has_comes_ahead_of_refused(self):
        for variable in ["a", "c", "d", "-e"]:
            other = Book([("c", "d")])
            self.fails(books.either, [BOOK, other, variable], wrong.InvalidVariable, variable)

    def test_judges_return_true_or_false_for_any_object(self):
        for function, rows in CALLS:
            for value in any_objects() if rows and rows[-1][0] == "value" else []:
                answer = function(*right_arguments(rows)[:-1], value)
                self.assertIn(answer, [True, False])
                self.assertIsInstance(answer, bool)

    def test_a_tuple_is_no_list_and_true_is_no_number(self):
        self.assertFalse(clauses.is_clause(["a"]))
        self.assertFalse(books.is_part(BOOK, ["a"]))
        self.assertFalse(books.is_filling(Book([("a",)]), ["a"]))
        self.fails(Book, [(("a",),)], wrong.InvalidClauses, (("a",),))
        literals, names = ("a",), ("a",)
        self.fails(clauses.clause_of, [literals], wrong.InvalidClause, literals)
        self.fails(clauses.turned, [("a",), names], wrong.InvalidMap, names)
        self.fails(books.turned_book, [BOOK, names], wrong.InvalidMap, names)
        self.assertFalse(looks.is_record(TWO, 2, tuple(RECORD)))
        self.assertFalse(trees.is_tree(TWO, list(TREE)))
        self.assertFalse(opponents.are_points(TWO, {**FAMILY, ("b",): True}))
        self.assertFalse(opponents.is_paper_for(TWO, 3, ["tree", TREE]))
        for true in [True, False]:
            self.fails(looks.shows, [TWO, true], wrong.InvalidDepth, true)
            self.fails(trees.fewest_at, [TWO, true], wrong.InvalidNumber, true)
            self.fails(opponents.family_for, [TWO, true], wrong.InvalidNumber, true)

    def test_judges_take_the_good_ones(self):
        good = [
            looks.is_record(TWO, 2, RECORD), depths.is_deepest(HIDDEN, ("-a",)),
            depths.is_closing(HIDDEN, 1, {("a",): ("b", ("-b",), ("b",))}), trees.is_tree(TWO, TREE),
            trees.is_least_tree(TWO, TREE), trees.is_tree_of_fewest(TWO, 2, TREE), opponents.are_points(TWO, FAMILY),
            opponents.is_family_for(TWO, 2, FAMILY), opponents.is_thinned(TWO, FAMILY, FAMILY),
            opponents.is_paper_for(TWO, 2, ("family", FAMILY)), opponents.is_paper_for(TWO, 3, ("tree", TREE)),
            joins.is_derivation(TWO, LINES), joins.is_ending(TWO, 1, LINES), joins.is_one_sided_ending(TWO, 2, LINES),
            joins.is_closed_family(TWO, 0, CLOSED), joins.is_broad_family(TWO, 1, CLOSED),
            joins.is_ending_by_record(TWO, RECORD, LINES), fillings.is_way(HIDDEN, (), 1, ["a", "-b"]),
            fillings.is_trap(HIDDEN, 0, ("-a",)), parts.is_core(TWO, TWO.clauses()),
        ]
        self.assertEqual(good, [True] * len(good))

    def test_the_order_of_keys_means_nothing(self):
        for entries in itertools.permutations(FAMILY.items()):
            family = dict(entries)
            self.assertTrue(opponents.are_points(TWO, family))
            self.assertTrue(opponents.is_thinned(TWO, FAMILY, family))
            self.assertEqual(shown(opponents.thinned(TWO, family)), shown(opponents.thinned(TWO, FAMILY)))

    def test_arguments_stay_as_they_were(self):
        for function, rows in CALLS:
            arguments = right_arguments(rows)
            before = shown(arguments)
            function(*arguments)
            self.assertEqual(shown(arguments), before, function)

    def test_what_was_returned_may_be_changed(self):
        for function, rows in CALLS:
            arguments = right_arguments(rows)
            passed, told = shown(arguments), shown(function(*arguments))
            scramble(function(*arguments))
            self.assertEqual(shown(arguments), passed, function)
            self.assertEqual(shown(function(*arguments)), told, function)

    def test_keys_ascend(self):
        for function, rows in CALLS:
            self.assertTrue(ascends(function(*right_arguments(rows))), function)

    def test_lists_of_a_book_may_be_changed(self):
        rows = [("b",), ("a", "b")]
        book = Book(rows)
        rows.append(("c",))
        rows[0] = None
        book.clauses().append(("d",))
        book.variables().clear()
        self.assertEqual([book.clauses(), book.variables()], [[("a", "b"), ("b",)], ["a", "b"]])

    def test_lists_and_dictionaries_that_were_passed_may_be_changed(self):
        names, sent, literals = ["a"], {"a": "x", "b": "y", "c": "z"}, ["b", "a"]
        turned, renamed = books.turned_book(BOOK, names), books.renamed_book(BOOK, sent)
        clause = clauses.clause_of(literals)
        told = shown([turned, renamed, clause])
        names.append("b")
        sent["a"] = "q"
        literals.clear()
        self.assertEqual(shown([turned, renamed, clause]), told)

    def test_all_is_defined_where_the_interface_lists_it(self):
        for module, calls in MODULES:
            for function, _ in calls:
                self.assertIs(getattr(module, function.__name__), function)
                self.assertEqual(function.__module__, module.__name__)
        for name in ["__init__", "__eq__", "clauses", "variables"]:
            self.assertIn(name, vars(Book))


if __name__ == "__main__":
    unittest.main()
