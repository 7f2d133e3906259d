"""Points 78 to 86: desks, against a plain model of them; blocks, copies, logs and replayed logs."""

import random
import unittest

from lookdepths.books import Book
from lookdepths.desk import Desk, replayed
from lookdepths.errors import (
    InvalidBook, InvalidClause, InvalidDepth, InvalidDesk, InvalidLiteral, InvalidRecord, InvalidSpot, LookError,
    NothingToRedo, NothingToUndo, Refused,
)
from tests.helper import (
    against, any_objects, both, chain, is_row, is_signed_name, left_over, looked, names_in, ring, row, seen_depth, shown,
    signs,
)

TWO = [("a", "b"), ("-b", "a"), ("-a", "b"), ("-a", "-b")]
HALF = [("a", "b"), ("-b", "a"), ("-a", "c", "d")]
BOOKS = [TWO, HALF, [], [()], [("a",)], chain(["a", "b", "c"]), ring(["c", "d", "e"]), [("x", "y"), ("-x", "z")],
         signs(["x", "y"]), [("u",), ("-u", "v"), ("-v", "w")], [("p", "q"), ("-p", "q")], signs(["p", "q"])[:3]]
WORDS = ["put", "take", "choose", "back", "force", "add", "drop", "lay"]


class Model:
    """A desk as points 78 to 86 tell it: what happened is kept whole, and told from whole states."""

    def __init__(self):
        self.states = [({}, 0)]
        self.commands = []
        self.later = []

    def now(self):
        return self.states[-1][0]

    def need(self, condition, error, value):
        if not condition:
            raise error(value)

    def spot(self, value):
        self.need(isinstance(value, int) and not isinstance(value, bool) and value in self.now(), InvalidSpot, value)
        return self.now()[value]

    def depth(self, value):
        self.need(isinstance(value, int) and not isinstance(value, bool) and 0 <= value <= 8, InvalidDepth, value)

    def keep(self, command, changes, puts=0):
        spots = {**self.now(), **changes}
        spots = {spot: spots[spot] for spot in sorted(spots) if spots[spot] is not None}
        self.states = self.states + [(spots, self.states[-1][1] + puts)]
        self.commands = self.commands + [command]
        self.later = []

    def put(self, book):
        self.need(isinstance(book, Book), InvalidBook, book)
        spot = self.states[-1][1]
        self.keep(("put", book), {spot: (sorted(book.clauses()), ())}, 1)
        return spot

    def take(self, spot):
        self.spot(spot)
        self.keep(("take", spot), {spot: None})

    def literal(self, spot, literal):
        rows, part = self.spot(spot)
        self.need(is_signed_name(literal) and literal.strip("-") in names_in(rows), InvalidLiteral, literal)
        return rows, part

    def choose(self, spot, literal):
        rows, part = self.literal(spot, literal)
        self.need(literal not in part and against(literal) not in part, Refused, literal)
        self.keep(("choose", spot, literal), {spot: (rows, row(*part, literal))})

    def back(self, spot, literal):
        rows, part = self.literal(spot, literal)
        self.need(literal in part, Refused, literal)
        self.keep(("back", spot, literal), {spot: (rows, row(*[other for other in part if other != literal]))})

    def force(self, spot, depth):
        rows, part = self.spot(spot)
        self.depth(depth)
        left, found = left_over(rows, part), []
        self.need(not looked(left, depth), Refused, depth)
        while depth > 0:
            failing = [literal for literal in both(names_in(left)) if looked(left_over(left, [literal]), depth - 1)]
            if not failing:
                break
            found.append(against(failing[0]))
            left = left_over(left, found[-1:])
        self.need(found, Refused, depth)
        self.keep(("force", spot, depth), {spot: (rows, row(*part, *found))})
        return sorted(found)

    def add(self, spot, clause):
        rows, part = self.spot(spot)
        self.need(is_row(clause), InvalidClause, clause)
        self.need(clause not in rows, Refused, clause)
        self.keep(("add", spot, clause), {spot: (sorted([*rows, clause]), part)})

    def drop(self, spot, clause):
        rows, part = self.spot(spot)
        self.need(is_row(clause), InvalidClause, clause)
        left = [other for other in rows if other != clause]
        self.need(clause in rows and set(names_in([part])) <= set(names_in(left)), Refused, clause)
        self.keep(("drop", spot, clause), {spot: (left, part)})

    def lay(self, one, other):
        rows, part = self.spot(one)
        self.need(other != one, InvalidSpot, other)
        others, more = self.spot(other)
        self.need(not set(names_in(rows)) & set(names_in(others)), Refused, other)
        self.keep(("lay", one, other), {one: (sorted({*rows, *others}), row(*part, *more)), other: None})

    def undo(self):
        if not self.commands:
            raise NothingToUndo()
        self.later = self.later + [(self.states[-1], self.commands[-1])]
        self.states, self.commands = self.states[:-1], self.commands[:-1]

    def redo(self):
        if not self.later:
            raise NothingToRedo()
        state, command = self.later[-1]
        self.later = self.later[:-1]
        self.states, self.commands = self.states + [state], self.commands + [command]

    def held(self):
        return self.states, self.commands, self.later

    def restore(self, held):
        self.states, self.commands, self.later = held

    def copy(self):
        other = Model()
        other.restore(self.held())
        return other

    def told(self):
        """All that the methods tell, but for undo and redo."""
        found = [sorted(self.now()), [shown(command) for command in self.commands]]
        for spot, (rows, part) in self.now().items():
            left = left_over(rows, part)
            alike = [other for other in self.now() if other != spot and left_over(*self.now()[other]) == left]
            found += [(rows, part, sorted(left), seen_depth(left), [looked(left, depth) for depth in range(4)], alike)]
        found += [[spot for spot in self.now() if looked(left_over(*self.now()[spot]), depth)] for depth in range(4)]
        return found


def told_by(desk):
    """What Model.told tells, of a desk."""
    found = [desk.spots(), [shown(command) for command in desk.log()]]
    for spot in desk.spots():
        found += [(desk.book_there(spot).clauses(), desk.set_there(spot), desk.rest_there(spot).clauses(),
                   desk.least_there(spot), [desk.is_shown(spot, depth) for depth in range(4)], desk.alike_spots(spot))]
    return found + [desk.shown_spots(depth) for depth in range(4)]


def outcome(call, *arguments):
    """What a call returns, or the class and the field of its error."""
    try:
        return shown(call(*arguments))
    except LookError as error:
        return error.__class__.__name__, shown(getattr(error, "value", None))


def any_command(chance, model):
    """A word and its arguments, mostly such as can be made."""
    spots = [*model.now(), *model.now(), *model.now(), 0, 1, 7, True]
    spot = chance.choice(spots)
    rows, part = model.now().get(spot, (TWO, ())) if not isinstance(spot, bool) else (TWO, ())
    literals = both(names_in(rows)) + ["a", "-zz"]
    clauses = [*rows, *rows, ("a",), ("-a", "e"), ("b", "c"), (), ("b", "a"), ("new",)]
    word = chance.choice(WORDS + ["choose", "force", "lay", "put", "undo", "undo", "redo", "redo"])
    if word == "put":
        return word, [Book(chance.choice(BOOKS))]
    if word in ["undo", "redo"]:
        return word, []
    if word == "take":
        return (word, [spot]) if chance.random() < 0.4 else ("choose", [spot, chance.choice(literals)])
    if word == "back" and part and chance.random() < 0.8:
        return word, [spot, chance.choice(part)]
    things = {"choose": literals, "back": literals, "force": [0, 1, 2, 3, 8, 9], "add": clauses, "drop": clauses,
              "lay": spots}
    return word, [spot, chance.choice(things[word])]


class DeskTest(unittest.TestCase):
    def run_commands(self, chance, desk, model, many):
        for _ in range(many):
            word, arguments = any_command(chance, model)
            if word == "put" and len(model.now()) >= 4:
                continue
            told = outcome(getattr(model, word), *arguments)
            self.assertEqual(outcome(getattr(desk, word), *arguments), told, (word, shown(arguments)))

    def same(self, desk, model):
        self.assertEqual(told_by(desk), model.told())

    def unwind(self, desk, model):
        """Check all that can be undone and made again, on copies."""
        desk, model = desk.copy(), model.copy()
        for words in [["redo"] * (len(model.later) + 1), ["undo"] * (len(model.commands) + 1), ["redo"] * 3]:
            for word in words:
                self.assertEqual(outcome(getattr(desk, word)), outcome(getattr(model, word)))
                self.assertEqual([desk.spots(), len(desk.log())], [sorted(model.now()), len(model.commands)])
        self.same(desk, model)

    def test_long_rows_of_commands(self):
        for seed in range(40):
            chance, desk, model = random.Random(seed), Desk(), Model()
            for _ in range(6):
                self.run_commands(chance, desk, model, 8)
                self.same(desk, model)
            self.unwind(desk, model)
            other = replayed(Desk(), desk.log())
            self.assertEqual(told_by(other), told_by(desk))

    def test_copies_are_independent(self):
        for seed in range(10):
            chance, desk, model = random.Random(100 + seed), Desk(), Model()
            self.run_commands(chance, desk, model, 15)
            other, twin = desk.copy(), model.copy()
            self.assertIsInstance(other, Desk)
            self.run_commands(chance, desk, model, 10)
            self.run_commands(chance, other, twin, 10)
            self.same(desk, model)
            self.same(other, twin)
            self.unwind(desk, model)
            self.unwind(other, twin)

    def in_blocks(self, chance, desk, model, deep):
        """Commands in blocks within one another, left well and badly; behind each all is as it was."""
        held = model.held()
        try:
            with desk.trial() as name:
                self.assertIs(name, desk)
                self.run_commands(chance, desk, model, 4)
                if deep > 0:
                    self.in_blocks(chance, desk, model, deep - 1)
                self.run_commands(chance, desk, model, 3)
                self.same(desk, model)
                copied, twin = desk.copy(), model.copy()
                if chance.random() < 0.5:
                    raise KeyError("out")
        except KeyError:
            pass
        model.restore(held)
        self.same(desk, model)
        self.same(copied, twin)

    def test_blocks_within_one_another(self):
        for seed in range(12):
            chance, desk, model = random.Random(200 + seed), Desk(), Model()
            self.run_commands(chance, desk, model, 10)
            self.in_blocks(chance, desk, model, 3)
            self.unwind(desk, model)

    def test_blocks_ten_deep(self):
        desk = Desk()
        desk.put(Book(TWO))

        def deeper(many):
            if many == 0:
                return desk.spots()
            with desk.trial():
                desk.put(Book([]))
                return deeper(many - 1)

        self.assertEqual(deeper(10), list(range(11)))
        self.assertEqual([desk.spots(), desk.put(Book([]))], [[0], 1])

    def test_a_block_begins_when_it_is_entered(self):
        desk = Desk()
        desk.put(Book(TWO))
        block = desk.trial()
        desk.choose(0, "a")
        with block:
            desk.choose(0, "b")
        self.assertEqual(desk.set_there(0), ("a",))

    def test_undo_and_redo_reach_ahead_of_a_block(self):
        desk = Desk()
        desk.put(Book(TWO))
        desk.choose(0, "a")
        desk.undo()
        with desk.trial():
            desk.redo()
            self.assertEqual(desk.set_there(0), ("a",))
            desk.undo()
            desk.undo()
            self.assertEqual(desk.spots(), [])
            self.assertRaises(NothingToUndo, desk.undo)
            self.assertEqual(desk.put(Book([])), 0)
            self.assertRaises(NothingToRedo, desk.redo)
        self.assertEqual([desk.spots(), desk.set_there(0)], [[0], ()])
        desk.redo()
        self.assertEqual(desk.set_there(0), ("a",))

    def test_attempts(self):
        desk, calls, found = Desk(), [], [object(), [1]]
        desk.put(Book(TWO))

        def well(held):
            calls.append(held)
            held.choose(0, "a")
            held.put(Book([]))
            return found

        def badly(held):
            well(held)
            raise Refused("badly")

        def within(held):
            return held.attempt(well), held.set_there(0), held.choose(0, "-b"), held.set_there(0)

        self.assertIs(desk.attempt(well), found)
        self.assertEqual([len(calls), desk.set_there(0), desk.spots()], [1, (), [0]])
        self.assertIs(calls[0], desk)
        with self.assertRaises(Refused) as seen:
            desk.attempt(badly)
        self.assertEqual([seen.exception.value, desk.set_there(0), len(calls)], ["badly", (), 2])
        self.assertEqual(desk.attempt(within), (found, (), None, ("-b",)))
        self.assertEqual([desk.set_there(0), desk.put(Book([])), desk.attempt(action=lambda held: held.spots())],
                         [(), 1, [0, 1]])

    def test_counts_of_spots(self):
        desk = Desk()
        self.assertEqual([desk.put(Book([])), desk.put(Book([("a",)])), desk.take(0), desk.put(Book([("b",)]))], [0, 1, None, 2])
        desk.lay(1, 2)
        self.assertEqual([desk.spots(), desk.put(Book([]))], [[1], 3])
        desk.undo()
        self.assertEqual(desk.put(Book(TWO)), 3)
        with desk.trial():
            self.assertEqual(desk.put(Book([])), 4)
        self.assertEqual(desk.put(Book([])), 4)

    def test_laying_books_of_many_variables(self):
        desk = Desk()
        for rows in [signs(["a", "b", "c"]), ring(["d", "e", "f", "g", "h", "i"]), chain(["j", "k"])]:
            desk.put(Book(rows))
        desk.lay(1, 0)
        self.assertEqual([desk.least_there(1), desk.is_shown(1, 1), desk.is_shown(1, 2)], [2, False, True])
        desk.lay(2, 1)
        self.assertEqual([desk.least_there(2), desk.spots(), desk.shown_spots(1)], [1, [2], [2]])
        desk.choose(2, "k")
        self.assertEqual([desk.set_there(2), desk.least_there(2)], [("k",), 0])
        # Two books of six variables each, of which one can be filled.
        desk = Desk()
        desk.put(Book(ring(list("abcdef"))[:-1]))
        desk.put(Book([("u", "v", "w"), ("-u", "v", "w"), ("x", "y", "z")]))
        desk.lay(0, 1)
        self.assertEqual([desk.least_there(0), desk.is_shown(0, 8), desk.force(0, 2)], [None, False, list("abcdef")])
        self.assertEqual(desk.rest_there(0).clauses(), [("-u", "v", "w"), ("u", "v", "w"), ("x", "y", "z")])

    def test_wrong_arguments_of_each_method(self):
        desk, other = Desk(), Desk()
        for held in [desk, other]:
            held.put(Book(TWO))
            held.put(Book([("c",), ("c", "d")]))
            held.choose(0, "a")
            held.choose(0, "b")
            held.undo()
        before = shown(desk.log())
        right = {"spot": 0, "literal": "b", "depth": 1, "clause": ("z",), "one": 0, "other": 1, "book": Book([])}
        kinds = {"spot": (InvalidSpot, lambda value: value in [0, 1]), "one": (InvalidSpot, lambda value: value in [0, 1]),
                 "other": (InvalidSpot, lambda value: value == 1), "literal": (InvalidLiteral, is_literal_of_two),
                 "depth": (InvalidDepth, lambda value: value in range(9)), "clause": (InvalidClause, is_row),
                 "book": (InvalidBook, lambda value: isinstance(value, Book))}
        methods = {"put": ["book"], "take": ["spot"], "book_there": ["spot"], "set_there": ["spot"], "rest_there": ["spot"],
                   "choose": ["spot", "literal"], "back": ["spot", "literal"], "force": ["spot", "depth"],
                   "add": ["spot", "clause"], "drop": ["spot", "clause"], "lay": ["one", "other"],
                   "is_shown": ["spot", "depth"], "least_there": ["spot"], "shown_spots": ["depth"], "alike_spots": ["spot"]}
        for word, names in methods.items():
            for at, name in enumerate(names):
                error, is_right = kinds[name]
                for value in any_objects() + [3, 9, 60]:
                    if not isinstance(value, bool) and not isinstance(value, (list, dict)) and is_right(value):
                        continue
                    # What stands behind the wrong one is wrong, too; by position and by name.
                    arguments = [right[other] for other in names[:at]] + [value] + [None] * (len(names) - at - 1)
                    for call in [lambda: getattr(desk, word)(*arguments),
                                 lambda: getattr(desk, word)(**dict(zip(names, arguments)))]:
                        with self.assertRaises(error) as seen:
                            call()
                        self.assertIs(seen.exception.value, value, (word, name))
        self.assertEqual(shown(desk.log()), before)
        desk.redo()
        self.assertEqual(desk.set_there(0), ("a", "b"))

    def test_refused_commands_leave_all_as_it_was(self):
        desk = Desk()
        desk.put(Book(HALF))
        desk.put(Book([("c", "x")]))
        desk.put(Book([("a",), ("b", "c")]))
        for word, arguments in [("choose", (0, "c")), ("choose", (0, "d")), ("choose", (2, "a")), ("undo", ())]:
            getattr(desk, word)(*arguments)
        before = told_by(desk)
        refused = [("choose", 0, "-c"), ("choose", 0, "c"), ("back", 0, "-c"), ("back", 0, "a"), ("force", 0, 0),
                   ("force", 0, 1), ("force", 1, 8), ("add", 0, ("a", "b")), ("drop", 0, ("z",)), ("lay", 0, 1), ("lay", 1, 0),
                   ("drop", 0, ("-a", "c", "d"))]
        for word, spot, thing in refused:
            with self.assertRaises(Refused) as seen:
                getattr(desk, word)(spot, thing)
            self.assertIs(seen.exception.value, thing)
        self.assertEqual(told_by(desk), before)
        desk.redo()
        self.assertEqual(desk.set_there(2), ("a",))
        with self.assertRaises(Refused) as seen:
            desk.drop(2, ("a",))
        self.assertEqual(seen.exception.value, ("a",))
        # What is shown is not forced.
        desk.add(2, ("-a",))
        for depth in [0, 1, 8]:
            with self.assertRaises(Refused) as seen:
                desk.force(2, depth)
            self.assertEqual(seen.exception.value, depth)

    def test_commands_return_none(self):
        desk = Desk()
        desk.put(Book(TWO))
        desk.put(Book([("x",)]))
        told = [desk.choose(0, "a"), desk.back(0, "a"), desk.add(0, ("c",)), desk.drop(0, ("c",)), desk.lay(0, 1),
                desk.undo(), desk.redo(), desk.take(0)]
        self.assertEqual(told, [None] * 8)

    def test_least_there_goes_as_the_point_says(self):
        none = 99
        for seed in range(20):
            chance, desk, model = random.Random(300 + seed), Desk(), Model()
            self.run_commands(chance, desk, model, 5)
            for _ in range(30):
                word, arguments = any_command(chance, model)
                spot = arguments[0] if arguments else None
                ahead = {at: none if desk.least_there(at) is None else desk.least_there(at) for at in desk.spots()}
                if word == "put" and len(desk.spots()) >= 4 or not isinstance(outcome(getattr(model, word), *arguments), str):
                    continue
                getattr(desk, word)(*arguments)
                now = {at: none if desk.least_there(at) is None else desk.least_there(at) for at in desk.spots()}
                if word in ["choose", "force", "add"]:
                    self.assertLessEqual(now[spot], ahead[spot])
                if word in ["back", "drop"]:
                    self.assertGreaterEqual(now[spot], ahead[spot])
                if word == "lay":
                    self.assertEqual(now[spot], min(ahead[spot], ahead[arguments[1]]))

    def test_what_was_told_may_be_changed(self):
        desk = Desk()
        desk.put(Book([("a",), ("-a", "b")]))
        before = told_by(desk)
        desk.spots().append(5)
        desk.log().clear()
        desk.shown_spots(8).append(1)
        desk.alike_spots(0).append(1)
        desk.rest_there(0).clauses().clear()
        self.assertEqual(told_by(desk), before)
        desk.force(0, 1).clear()
        self.assertEqual(desk.set_there(0), ("a", "b"))

    def test_a_desk_is_equal_to_itself(self):
        desk = Desk()
        self.assertTrue(desk == desk and not desk != desk)
        self.assertFalse(Desk() == 0)

    def test_methods_stand_in_the_class(self):
        for name in ["put", "take", "spots", "book_there", "set_there", "rest_there", "choose", "back", "force", "add",
                     "drop", "lay", "is_shown", "least_there", "shown_spots", "alike_spots", "trial", "attempt", "copy",
                     "undo", "redo", "log"]:
            self.assertIn(name, vars(Desk))


class LogTest(unittest.TestCase):
    def test_logs_of_other_desks(self):
        for seed in range(15):
            chance, desk, model = random.Random(400 + seed), Desk(), Model()
            test = DeskTest()
            test.run_commands(chance, desk, model, 12)
            other, twin = Desk(), Model()
            test.run_commands(chance, other, twin, 12)
            before = told_by(desk)
            told = outcome(lambda: told_by(replayed(desk, other.log())))

            def plainly():
                copied = model.copy()
                for word, *arguments in twin.commands:
                    getattr(copied, word)(*arguments)
                return copied.told()

            self.assertEqual(told, outcome(plainly))
            self.assertEqual(told_by(desk), before)

    def test_the_copy_has_what_can_be_undone(self):
        desk = Desk()
        desk.put(Book(TWO))
        desk.choose(0, "a")
        desk.undo()
        other = replayed(desk, [])
        self.assertIsNot(other, desk)
        other.redo()
        self.assertEqual([other.set_there(0), desk.set_there(0)], [("a",), ()])
        more = replayed(desk, [("choose", 0, "b")])
        self.assertRaises(NothingToRedo, more.redo)
        more.undo()
        more.undo()
        self.assertEqual([more.spots(), desk.spots(), desk.log()], [[], [0], [("put", Book(TWO))]])

    def test_wrong_logs(self):
        wrong = [None, (), {}, "put", [()], [[]], [None], ["put"], [("put",)], [("put", Book([]), 0)], [["put", Book([])]],
                 [("undo",)], [("redo",)], [("take",)], [("take", 0, 0)], [("choose", 0)], [("spots",)], [("set_there", 0)],
                 [("least_there", 0)], [("is_shown", 0, 1)], [("try", [])], [(0, 0)], [(["put"], 0)], [("lay", 0, 1, 2)],
                 [("put", Book([])), ("put",)], [("take", 7), ("nothing", 1)], (("put", Book([])),)]
        desk = Desk()
        for log in wrong:
            with self.assertRaises(InvalidRecord) as seen:
                replayed(desk, log)
            self.assertIs(seen.exception.value, log)
        for value in any_objects():
            right = isinstance(value, list) and all(
                isinstance(entry, tuple) and entry and entry[0] in WORDS for entry in value)
            if not right:
                with self.assertRaises(InvalidRecord) as seen:
                    replayed(desk, value)
                self.assertIs(seen.exception.value, value)
            with self.assertRaises(InvalidDesk) as seen:
                replayed(Book([]), value)

    def test_the_error_of_the_first_command_that_raises_one(self):
        desk = Desk()
        desk.put(Book(TWO))
        for log, error, held in [([("take", 0), ("take", 0)], InvalidSpot, 0), ([("put", None)], InvalidBook, None),
                                 ([("choose", 0, "z"), ("put", 1)], InvalidLiteral, "z"), ([("add", 0, 1)], InvalidClause, 1),
                                 ([("force", 0, 9)], InvalidDepth, 9), ([("choose", 0, "a"), ("choose", 0, "a")], Refused, "a"),
                                 ([("lay", 0, 0)], InvalidSpot, 0)]:
            with self.assertRaises(error) as seen:
                replayed(desk, log)
            self.assertEqual(seen.exception.value, held)
            self.assertEqual(desk.log(), [("put", Book(TWO))])
        for value in [None, Desk, "a", [], Book([])]:
            with self.assertRaises(InvalidDesk) as seen:
                replayed(value, None)
            self.assertIs(seen.exception.value, value)


def is_literal_of_two(value):
    return is_signed_name(value) and value.strip("-") in ["a", "b"]


if __name__ == "__main__":
    unittest.main()
