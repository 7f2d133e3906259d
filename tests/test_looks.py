"""Points 22 to 28: looking, what is forced, and records of looks."""

import itertools
import unittest

from lookdepths.books import Book
from lookdepths.errors import Filled, InvalidDepth, InvalidFilling, InvalidLook, InvalidVariable, Refused
from lookdepths.looks import (
    clauses_in, depth_at, depth_of_record, depths_below, forced, forced_by, is_record, least_depth, left_by,
    record_of, shown_literals, shows,
)
from tests.helper import (
    against, any_objects, both, chain, copies, every_book, every_row, guests, is_look, left_over, looked, names_in,
    pseudo_books, ring, row, seen_depth, signs,
)

SMALL = every_book(["a", "b"], 9)
CHANCE = (pseudo_books(1, 60, ["a", "b", "c"], 7, 3) + pseudo_books(2, 40, ["a", "b", "c"], 6, 2)
          + pseudo_books(3, 25, ["a", "b", "c", "d"], 12, 3) + pseudo_books(4, 15, ["a", "b", "c", "d"], 18, 4, 3)
          + pseudo_books(5, 6, ["a", "b", "c", "d", "e"], 24, 4, 2))
NAMED = [signs(["a"]), signs(["a", "b"]), signs(["a", "b", "c"]), signs(["a", "b", "c", "d"]), ring(["a", "b", "c"]),
         ring(["a", "b", "c", "d"]), chain(["a"]), chain(["a", "b", "c", "d"]), copies(1, 3), copies(2, 2),
         guests(2, 1), guests(3, 2)]
ALL = SMALL + CHANCE + NAMED
FEW = SMALL[::7] + CHANCE[::6] + NAMED[:8]
TWO = [("a", "b"), ("-b", "a"), ("-a", "b"), ("-a", "-b")]


def forced_plainly(rows, depth, order):
    """What a look forces, as point 24 says it."""
    found, left = [], frozenset(rows)
    while depth > 0 and () not in left:
        failing = [literal for name in order if name in names_in(left) for literal in (name, "-" + name)
                   if looked(left_over(left, [literal]), depth - 1)]
        if not failing:
            break
        found.append(against(failing[0]))
        left = left_over(left, [against(failing[0])])
    return found


def every_look(rows, depth, literals=()):
    """ALL records of a look at a depth, or a lesser one, behind what is set."""
    names = [name for name in names_in(rows) if name not in literals and "-" + name not in literals]
    looks = [[entry] for entry in rows if all(against(literal) in literals for literal in entry)]
    for literal in both(names) if depth > 0 else []:
        within = every_look(rows, depth - 1, (*literals, against(literal)))
        follows = every_look(rows, depth, (*literals, literal)) if within else []
        looks += [[(literal, one), *other] for one in within for other in follows]
    return looks


def bent(value, names):
    """Whatever comes of a record if one place of it is bent."""
    yield tuple(value)
    yield value[:-1]
    yield value + value[-1:]
    yield [value[-1]]
    yield [None, *value]
    for literal in both([*names, "z", "A", ""]):
        yield [(literal, value), *value]
        yield [(literal, [value[-1]]), *value]
        yield value[:-1] + [row(literal)]
        yield value[:-1] + [row(*value[-1], literal)]
        yield value[:-1] + [literal]
    yield value[:-1] + [list(value[-1])]
    yield value[:-1] + [value[-1][::-1]]
    yield value[:-1] + [value[-1][1:]]
    for at, (literal, within) in enumerate(value[:-1]):
        head, tail = value[:at], value[at + 1:]
        yield head + tail
        yield head + [(against(literal), within)] + tail
        yield head + [[literal, within]] + tail
        yield head + [(literal,)] + tail
        yield head + [(literal, within, within)] + tail
        yield head + [(literal, within[-1])] + tail
        for other in [*names, None, 1, [literal], (literal,), Book([])]:
            yield head + [(other, within)] + tail
        for inner in bent(within, names):
            yield head + [(literal, inner)] + tail


class ShowsTest(unittest.TestCase):
    def test_against_a_plain_look_literals_in_either_order(self):
        for rows in ALL:
            book = Book(rows)
            for depth in range(5):
                found = [shows(book, depth), looked(rows, depth), looked(rows, depth, True)]
                self.assertIn(found, [[True] * 3, [False] * 3], (rows, depth))

    def test_of_all_rests(self):
        for rows in FEW:
            for part in every_row(names_in(rows)):
                left = left_over(rows, part)
                for depth in range(4):
                    self.assertIs(shows(Book(list(left)), depth), looked(left, depth), (rows, part, depth))

    def test_edges(self):
        for depth in [0, 1, 8, 60, 10 ** 29]:
            self.assertIs(shows(Book([]), depth), False)
            self.assertIs(shows(Book([("a", "b")]), depth), False)
            self.assertIs(shows(Book([()]), depth), True)
            self.assertIs(shows(Book([(), ("a",)]), depth), True)
            self.assertIs(shows(Book(signs(["a"])), depth), depth >= 1)
            self.assertIs(shows(Book(signs(["a", "b", "c"])), depth), depth >= 3)

    def test_wrong_depths(self):
        for function in [shows, forced, left_by, shown_literals, record_of]:
            for depth in [-1, True, None, "1", [1], (1,)]:
                with self.assertRaises(InvalidDepth) as seen:
                    function(Book([()]), depth)
                self.assertIs(seen.exception.value, depth)


class ForcedTest(unittest.TestCase):
    def test_forced_against_plain_ones(self):
        for rows in ALL:
            book = Book(rows)
            for depth in range(5):
                if looked(rows, depth):
                    for function in [forced, left_by]:
                        with self.assertRaises(Refused) as seen:
                            function(book, depth)
                        self.assertIs(seen.exception.value, book)
                    continue
                part = row(*forced_plainly(rows, depth, names_in(rows)))
                self.assertEqual(forced(book, depth), part)
                self.assertEqual(left_by(book, depth), Book(list(left_over(rows, part))))
                self.assertEqual(seen_depth(left_over(rows, part)), seen_depth(rows))

    def test_forced_edges(self):
        self.assertEqual(forced(Book([]), 3), ())
        self.assertEqual(left_by(Book([]), 3), Book([]))
        self.assertEqual(forced(Book([("a",), ("-a", "-b"), ("b", "c")]), 0), ())
        self.assertEqual(forced(Book([("a",), ("-a", "-b"), ("b", "c")]), 1), ("-b", "a", "c"))
        self.assertEqual(left_by(Book([("a",), ("-a", "-b"), ("b", "c")]), 1), Book([]))

    def test_shown_literals_also_of_books_that_are_shown(self):
        for rows in ALL:
            for depth in range(4):
                literals = [literal for literal in both(names_in(rows)) if looked(left_over(rows, [literal]), depth)]
                self.assertEqual(shown_literals(Book(rows), depth), literals)
        self.assertEqual(shown_literals(Book([]), 4), [])

    def test_forced_by_all_orders(self):
        for rows in FEW:
            book = Book(rows)
            for depth in range(4):
                for order in list(itertools.permutations(names_in(rows)))[:24]:
                    literals = forced_by(book, depth, list(order))
                    self.assertEqual(literals, forced_plainly(rows, depth, order), (rows, depth, order))
                    if not looked(rows, depth):
                        self.assertEqual(row(*literals), forced(book, depth))

    def test_forced_by_edges(self):
        rows = chain(["a", "b", "c", "d"])
        self.assertEqual(forced_by(Book(rows), 1, ["b", "d", "a", "c"]), ["-d", "a", "b", "-c"])
        self.assertEqual(forced_by(Book(rows), 0, ["b", "d", "a", "c"]), [])
        self.assertEqual(forced_by(Book([(), ("a",)]), 3, ["a"]), [])
        self.assertEqual(forced_by(Book([]), 3, []), [])
        # Behind "-b" and "-a" no clause has "c", so it is not taken, though looking would show the rest with it.
        gone = Book([("-a", "b", "c"), ("-b", "a")] + signs(["d", "e"]))
        self.assertEqual(forced_by(gone, 3, ["b", "a", "c", "d", "e"]), ["-b", "-a", "-d", "-e"])
        self.assertEqual(forced_by(gone, 3, ["b", "c", "a", "d", "e"]), ["-b", "-c", "-a", "-d", "-e"])

    def test_wrong_orders(self):
        book = Book([("a", "b")])
        for order in [["a"], ["a", "b", "c"], ["a", "a", "b"], ["a", "-b"], ("a", "b"), ["a", ["b"]], None, "ab", [],
                      [1, 2]]:
            with self.assertRaises(InvalidVariable) as seen:
                forced_by(book, 1, order)
            self.assertIs(seen.exception.value, order)


class RecordTest(unittest.TestCase):
    def test_record_of(self):
        for rows in ALL:
            book = Book(rows)
            for depth in range(5):
                if looked(rows, depth):
                    record = record_of(book, depth)
                    self.assertTrue(is_look(rows, record, depth))
                    self.assertIs(is_record(book, depth, record), True)
                else:
                    with self.assertRaises(Refused) as seen:
                        record_of(book, depth)
                    self.assertIs(seen.exception.value, book)

    def test_all_records_of_small_books(self):
        for rows in [TWO, chain(["a"]), [(), ("a",)], [(), ("a", "b"), ("-a",)], chain(["a", "b"]), signs(["a"])]:
            book = Book(rows)
            looks = every_look(rows, 2)
            self.assertTrue(looks)
            for look in looks:
                least = next(depth for depth in range(3) if is_look(rows, look, depth))
                self.assertEqual(depth_of_record(book, look), least)
                self.assertEqual([is_record(book, depth, look) for depth in range(4)],
                                 [depth >= least for depth in range(4)])

    def test_records_that_ask_more_than_they_need(self):
        # "c" is gone where "a" is set, and the clause is broken already; an inner record tries more, too.
        rows = [("a",), ("-a",), ("-a", "c")]
        for record, depth in [([("a", [("a",)]), ("c", [("-a",)]), ("-a",)], 1), ([("-c", [("a", [("a",)]), ("-a",)]),
                              ("a", [("a",)]), ("-a",)], 2), ([("a", [("c", [("a",)]), ("a",)]), ("-a",)], 2)]:
            self.assertTrue(is_record(Book(rows), depth, record))
            self.assertFalse(is_record(Book(rows), depth - 1, record))
            self.assertEqual(depth_of_record(Book(rows), record), depth)

    def test_bent_records(self):
        for rows, depth in [(TWO, 2), (chain(["a", "b", "c"]), 1), (ring(["a", "b", "c"]), 2), ([(), ("b",)], 0)]:
            book, names = Book(rows), names_in(rows)
            looks = [record_of(book, depth)] + every_look(rows, depth)[:40]
            right = 0
            for value in [value for look in looks for value in bent(look, names)]:
                for at in range(depth + 2):
                    self.assertIs(is_record(book, at, value), is_look(rows, value, at), (rows, at, value))
                if is_look(rows, value, 4):
                    right += 1
                    self.assertTrue(is_look(rows, value, depth_of_record(book, value)))
                else:
                    for function in [clauses_in, depth_of_record]:
                        with self.assertRaises(InvalidLook) as seen:
                            function(book, value)
                        self.assertIs(seen.exception.value, value)
            self.assertGreater(right, 0)

    def test_any_objects_are_judged(self):
        for rows in [TWO, [()], [], [("a",), ("-a",)], [(), ("a", "b")]]:
            for value in any_objects():
                for depth in [0, 1, 3]:
                    self.assertIs(is_record(Book(rows), depth, value), is_look(rows, value, depth))

    def test_records_of_another_book(self):
        record = record_of(Book(TWO), 2)
        self.assertFalse(is_record(Book(TWO[:3]), 2, record))
        self.assertTrue(is_record(Book(TWO + [("c",)]), 2, record))
        self.assertFalse(is_record(Book(signs(["a", "b", "c"])), 2, record))

    def test_clauses_in(self):
        def count(look):
            return sum(count(within) for _, within in look[:-1]) + 1
        for rows in [TWO, chain(["a", "b"]), [(), ("a",)]]:
            for look in every_look(rows, 2):
                self.assertEqual(clauses_in(Book(rows), look), count(look))
        self.assertEqual(clauses_in(Book([()]), [()]), 1)


class DepthTest(unittest.TestCase):
    def test_least_depths(self):
        for rows in ALL:
            book, depth = Book(rows), seen_depth(rows)
            if depth is None:
                with self.assertRaises(Filled) as seen:
                    least_depth(book)
                self.assertIs(seen.exception.value, book)
            else:
                self.assertEqual(least_depth(book), depth)

    def test_named_books(self):
        self.assertEqual([least_depth(Book(rows)) for rows in NAMED], [1, 2, 3, 4, 2, 2, 1, 1, 2, 3, 1, 2])
        self.assertEqual(least_depth(Book([()])), 0)

    def test_depth_at_all_part_fillings(self):
        for rows in FEW + NAMED[8:11]:
            book = Book(rows)
            for part in every_row(names_in(rows)):
                depth = seen_depth(left_over(rows, part))
                if depth is None:
                    with self.assertRaises(Filled) as seen:
                        depth_at(book, part)
                    self.assertIs(seen.exception.value, part)
                else:
                    self.assertEqual(depth_at(book, part), depth)

    def test_wrong_part_fillings(self):
        for part in [("c",), ("b", "a"), ["a"], None, ("a", "-a"), "a", (("a",),)]:
            with self.assertRaises(InvalidFilling) as seen:
                depth_at(Book(TWO), part)
            self.assertIs(seen.exception.value, part)

    def test_depths_below(self):
        for rows in ALL:
            depths = depths_below(Book(rows))
            self.assertEqual(list(depths), both(names_in(rows)))
            for literal in depths:
                self.assertEqual(depths[literal], seen_depth(left_over(rows, [literal])))
        self.assertEqual(depths_below(Book([])), {})


if __name__ == "__main__":
    unittest.main()
