"""Points 49 to 56: putting together, derivations and their widths, closed and broad families."""

import itertools
import unittest

from lookdepths.books import Book
from lookdepths.errors import (
    Filled, InvalidBook, InvalidClause, InvalidDerivation, InvalidLook, InvalidNumber, Refused,
)
from lookdepths.joins import (
    broad_family, clauses_by, closed_family, ending, ending_by_record, is_broad_family, is_closed_family, is_derivation,
    is_ending, is_ending_by_record, is_one_sided_ending, least_one_sided, least_width, made_with, makes,
    one_sided_ending, one_sided_makes, one_sided_of, partners, points_of_broad, width_of,
)
from lookdepths.looks import depth_of_record, least_depth, record_of
from lookdepths.trees import record_of_tree
from tests.helper import (
    FailsCase, against, any_objects, both, can_fill, chain, copies, every_book, every_plan, every_row, guests,
    is_broken, is_name, is_row, is_score, names_in, pseudo_books, ring, row, shown, signs,
)

TWO = [("a", "b"), ("-b", "a"), ("-a", "b"), ("-a", "-b")]
ALIKE = [("a", "c"), ("-a", "-c"), ("b", "d"), ("-b", "-d"), ("-c", "-d", "a", "b"), ("-b", "-c", "a", "d"),
         ("-a", "-d", "b", "c"), ("-a", "-b", "c", "d")]
SMALL = every_book(["a", "b"], 9)
CHANCE = (pseudo_books(61, 25, ["a", "b", "c"], 7, 3) + pseudo_books(62, 15, ["a", "b", "c"], 9, 3, 2)
          + pseudo_books(63, 4, ["a", "b", "c", "d"], 12, 3, 2) + pseudo_books(64, 2, ["a", "b", "c", "d"], 16, 4, 3))
NAMED = [TWO, signs(["a"]), signs(["a", "b", "c"]), ring(["a", "b", "c"]), chain(["a"]), chain(["a", "b", "c"]),
         copies(1, 3), [()], [], [(), ("a",)], [("a",)], [("a", "b", "c"), ("-a", "b"), ("-b", "c")]]
FEW = SMALL[::9] + CHANCE[::4] + NAMED


def clashing(one, other):
    return [literal for literal in one if against(literal) in other]


def joined(one, other):
    """The clause of two that can be put together, None if they can't be."""
    found = clashing(one, other)
    if len(found) != 1:
        return None
    return row(*[literal for literal in one + other if literal.strip("-") != found[0].strip("-")])


def closed_up(rows, width, one_sided):
    """ALL clauses of derivations of at most a width, as points 50 and 51 say it."""
    found = set(rows)
    while True:
        new = set()
        for one, other in itertools.combinations(sorted(found), 2):
            made = joined(one, other)
            size = min(len(one), len(other)) if one_sided else len(made or ())
            if made is not None and size <= width:
                new.add(made)
        if new <= found:
            return sorted(found)
        found |= new


def followed(rows, value):
    """The tuple (clauses, width, one-sided width) of any object that is a derivation, None if it is none."""
    if not isinstance(value, list):
        return None
    clauses, width, one_sided = [], 0, 0
    for line in value:
        if is_row(line) and line in rows:
            clauses.append(line)
            continue
        if not isinstance(line, tuple) or len(line) != 3 or not is_name(line[2]):
            return None
        if any(not isinstance(at, int) or isinstance(at, bool) or not 0 <= at < len(clauses) for at in line[:2]):
            return None
        one, other = clauses[line[0]], clauses[line[1]]
        if [literal.strip("-") for literal in clashing(one, other)] != [line[2]]:
            return None
        clauses.append(joined(one, other))
        width, one_sided = max(width, len(clauses[-1])), max(one_sided, min(len(one), len(other)))
    return clauses, width, one_sided


def is_list_of_parts(rows, value):
    """Whether any object is a list that is not empty, ascending, of part-fillings that break no clause."""
    if not isinstance(value, list) or not value or not all(is_row(part) for part in value):
        return False
    if not all(set(names_in([part])) <= set(names_in(rows)) for part in value):
        return False
    return value == sorted(set(value)) and not any(is_broken(clause, part) for clause in rows for part in value)


def within(part, most):
    """The parts of a part-filling of at most so many literals."""
    return [few for many in range(min(most, len(part)) + 1) for few in itertools.combinations(part, many)]


def stays_closed(rows, parts, part, width):
    held = {(few, literal.strip("-")) for other in parts for few in within(other, width) for literal in other}
    return all((few, name) in held for few in within(part, width) for name in names_in(rows))


def stays_broad(rows, parts, part, width):
    held = {(few, literal) for other in parts for few in within(other, width - 1) for literal in other}
    names = [name for name in names_in(rows) if name not in part and "-" + name not in part]
    return all((few, literal) in held for few in within(part, width - 1) for literal in both(names))


def greatest(rows, width, stays):
    """The greatest family, by taking out whatever does not stay, till all do."""
    parts = [part for part in every_row(names_in(rows)) if not any(is_broken(clause, part) for clause in rows)]
    while True:
        left = [part for part in parts if stays(rows, parts, part, width)]
        if left == parts:
            return sorted(left)
        parts = left


def is_family(rows, value, width, stays):
    return is_list_of_parts(rows, value) and all(stays(rows, value, part, width) for part in value)


def points_plainly(rows, width):
    """The points that the greatest broad family makes, as point 56 says it."""
    family = greatest(rows, width, stays_broad)
    found = {}
    for part in sorted({few for other in family for few in within(other, width)}):
        above = [other for other in family if set(part) <= set(other)]
        least = min(above, key=len)
        for other in above:
            assert set(least) <= set(other)
        for few in within(least, 60):
            found[few] = max(found.get(few, 0), width + 1 - len(part))
    return {part: found[part] for part in sorted(found)}


def bent(value, names):
    """Whatever comes of a derivation if one line of it is bent."""
    yield tuple(value)
    yield value[::-1]
    yield value + [None]
    yield value + [[]]
    yield value + value
    for at, line in enumerate(value):
        head, tail = value[:at], value[at + 1:]
        yield head + tail
        yield head + [list(line)] + tail
        yield head + [line[:-1]] + tail
        yield head + [line + (0,)] + tail
        yield head + [line, line] + tail
        if line and isinstance(line[0], int):
            first, second, name = line
            steps = [(second, first, name), (first, first, name), (first, len(head), name), (first, -1, name),
                     (first, True, name), (False, second, name), (str(first), second, name), (first, second),
                     (first, second, "-" + name), (first, second, (name,)), (first, second, None), (None, second, name),
                     (first, second, [name])]
            steps += [(first, second, other) for other in [*names, "z", ""]]
            steps += [(one, other, name) for one in range(len(head)) for other in range(len(head))]
            for step in steps:
                yield head + [step] + tail
        else:
            for literal in both([*names, "z"]):
                yield head + [row(*line, literal)] + tail
                yield head + [tuple(other for other in line if other != literal)] + tail


class PartnersTest(FailsCase):
    def test_partners_and_what_is_made(self):
        for rows in FEW:
            book = Book(rows)
            for clause in every_row(["a", "b", "c", "z"], 3):
                beside = [other for other in sorted(rows) if joined(clause, other) is not None]
                self.assertEqual(partners(book, clause), beside)
                self.assertEqual(made_with(book, clause), sorted({joined(clause, other) for other in beside}))

    def test_edges(self):
        book = Book([("a",), ("-a",), ("-a", "z"), ("a", "z"), ()])
        self.assertEqual([partners(book, ()), made_with(book, ())], [[], []])
        self.assertEqual(made_with(book, ("a", "z")), [("z",)])
        self.assertEqual(made_with(book, ("-a",)), [(), ("z",)])
        self.assertEqual(partners(book, ("-z", "a")), [("-a",), ("a", "z")])
        self.assertEqual(partners(Book([]), ("a",)), [])
        for function in [partners, made_with]:
            for clause in [("b", "a"), ["a"], None, ("a", "-a"), "a", (1,), (("a",),)]:
                self.fails(InvalidClause, clause, function, book, clause)


class DerivationTest(FailsCase):
    def check(self, rows, value):
        told = followed(rows, value)
        book = Book(rows)
        self.assertIs(is_derivation(book, value), told is not None, (rows, value))
        if told is None:
            for function in [clauses_by, width_of, one_sided_of]:
                self.fails(InvalidDerivation, value, function, book, value)
        else:
            self.assertEqual([clauses_by(book, value), width_of(book, value), one_sided_of(book, value)], list(told))
        for width in range(4):
            ended = told is not None and told[0][-1:] == [()]
            self.assertIs(is_ending(book, width, value), ended and told[1] <= width, (rows, width, value))
            self.assertIs(is_one_sided_ending(book, width, value), ended and told[2] <= width, (rows, width, value))
        return told is not None

    def test_any_objects(self):
        for rows in [TWO, [()], [], [("a",), ("-a",)], [("a", "b"), ("-a",)]]:
            for value in any_objects():
                self.check(rows, value)

    def test_told_and_bent_ones(self):
        for rows in [TWO, chain(["a", "b"]), ring(["a", "b", "c"]), [(), ("a",)], signs(["a"]), guests(3, 2)]:
            book, right, wrong = Book(rows), 0, 0
            told = [ending(book, 6), one_sided_ending(book, least_one_sided(book))]
            for value in told + [value for lines in told for value in bent(lines, names_in(rows)[:3])]:
                if self.check(rows, value):
                    right += 1
                else:
                    wrong += 1
            self.assertTrue(right > 1 and wrong > 1)

    def test_all_short_ones(self):
        rows = [("a",), ("-a", "b"), ("-b",)]
        lines = rows + [(one, other, name) for one in range(3) for other in range(3) for name in "ab"]
        right = 0
        for many in range(4):
            for value in itertools.product(lines, repeat=many):
                right += self.check(rows, list(value))
        # None of no lines, 3 of one; a clause, or a step, behind two that clash.
        self.assertEqual(right, 1 + 3 + 9 + 27 + 8)

    def test_edges(self):
        self.assertEqual([clauses_by(Book(TWO), []), width_of(Book([]), []), one_sided_of(Book([]), [])], [[], 0, 0])
        self.assertEqual([width_of(Book(TWO), TWO), one_sided_of(Book(TWO), TWO)], [0, 0])
        self.assertIs(is_ending(Book([()]), 0, [()]), True)
        self.assertIs(is_ending(Book([()]), 0, []), False)
        self.assertIs(is_ending(Book([(), ("a",)]), 0, [(), ("a",)]), False)
        # Of variables that stand side by side in the names of others, and of three literals in a line.
        book = Book([("a", "ab", "b"), ("-ab",), ("-a", "b")])
        self.assertEqual(clauses_by(book, [("a", "ab", "b"), ("-ab",), (1, 0, "ab"), ("-a", "b"), (2, 3, "a")])[-1],
                         ("b",))
        for function in [is_ending, is_one_sided_ending]:
            for width in [-1, True, None, "1", [1]]:
                self.fails(InvalidNumber, width, function, book, width, [()])


class WidthTest(FailsCase):
    def test_all_makes_of_each_width(self):
        for rows in SMALL[::3] + CHANCE + NAMED:
            book = Book(rows)
            for width in [*range(len(names_in(rows)) + 2), 60]:
                self.assertEqual(makes(book, width), closed_up(rows, width, False), (rows, width))
                self.assertEqual(one_sided_makes(book, width), closed_up(rows, width, True), (rows, width))

    def test_least_widths_against_a_plain_search(self):
        for rows in SMALL + CHANCE + NAMED + [ALIKE]:
            book = Book(rows)
            if can_fill(frozenset(rows)):
                for function in [least_width, least_one_sided]:
                    self.fails(Filled, book, function, book)
                continue
            widths = [next(width for width in range(7) if () in closed_up(rows, width, one_sided))
                      for one_sided in [False, True]]
            self.assertEqual([least_width(book), least_one_sided(book)], widths, rows)
            depth = least_depth(book)
            self.assertLessEqual(widths[1], depth)
            self.assertTrue(depth > 2 or widths[1] == depth)

    def test_a_width_may_be_more_than_the_depth(self):
        self.assertEqual([least_depth(Book(ALIKE)), least_one_sided(Book(ALIKE)), least_width(Book(ALIKE))], [3, 2, 3])
        self.assertEqual([least_one_sided(Book(copies(2, 2))), least_width(Book(copies(2, 2)))], [2, 3])

    def test_told_endings(self):
        for rows in SMALL + CHANCE + NAMED + [ALIKE]:
            book = Book(rows)
            for width in [*range(5), 60]:
                for one_sided, told in [(False, ending), (True, one_sided_ending)]:
                    if () not in closed_up(rows, width, one_sided):
                        self.fails(Refused, width, told, book, width)
                        continue
                    lines = told(book, width)
                    clauses, *widths = followed(rows, lines)
                    self.assertEqual(clauses[-1], ())
                    self.assertLessEqual(widths[one_sided], width)
                    self.assertIs([is_ending, is_one_sided_ending][one_sided](book, width, lines), True)


class FamiliesTest(FailsCase):
    def test_greatest_ones_against_a_plain_search(self):
        for rows in SMALL[::5] + CHANCE[:20:2] + CHANCE[-4:] + NAMED:
            book = Book(rows)
            for width in [0, 1, 2, 3]:
                for told, stays in [(closed_family, stays_closed), (broad_family, stays_broad)]:
                    family = greatest(rows, width, stays)
                    if not family:
                        self.fails(Refused, width, told, book, width)
                        continue
                    self.assertEqual(told(book, width), family, (rows, width))
                    judged = is_closed_family if told is closed_family else is_broad_family
                    self.assertIs(judged(book, width, family), True)

    def test_there_is_one_exactly_if_none_ends(self):
        for rows in SMALL + CHANCE + NAMED + [ALIKE]:
            book = Book(rows)
            for width in range(5):
                for told, one_sided in [(closed_family, False), (broad_family, True)]:
                    if () in closed_up(rows, width, one_sided):
                        self.fails(Refused, width, told, book, width)
                    else:
                        self.assertTrue(told(book, width))

    def test_not_all_that_break_no_made_clause_are_in_a_broad_one(self):
        self.assertEqual([closed_family(Book([("a",)]), 1), broad_family(Book([("a",)]), 1)], [[(), ("a",)], [("a",)]])
        self.assertEqual(len(broad_family(Book(ALIKE), 1)), 45)

    def test_all_lists_of_part_fillings_of_small_books(self):
        for rows in [TWO, [("a",)], signs(["a"]), [("a", "b")], [], [()], [("-a", "b"), ("-b", "a")], [("a",), ("b",)]]:
            book = Book(rows)
            parts = sorted(every_row(names_in(rows)))
            for width in range(3):
                unions = [set(), set()]
                for some in itertools.product([False, True], repeat=len(parts)):
                    value = [part for part, taken in zip(parts, some) if taken]
                    for at, (judge, stays) in enumerate([(is_closed_family, stays_closed), (is_broad_family, stays_broad)]):
                        told = is_family(rows, value, width, stays)
                        self.assertIs(judge(book, width, value), told, (rows, width, value))
                        unions[at] |= set(value) if told else set()
                self.assertEqual([sorted(unions[0]), sorted(unions[1])],
                                 [greatest(rows, width, stays_closed), greatest(rows, width, stays_broad)])

    def test_bent_ones(self):
        for rows in [ring(["a", "b", "c"]), [("a", "b"), ("-a", "c")], [("a",)], [("a", "b", "c")]]:
            book = Book(rows)
            for width in [0, 1, 2]:
                for told, judge, stays in [(closed_family, is_closed_family, stays_closed),
                                           (broad_family, is_broad_family, stays_broad)]:
                    if not greatest(rows, width, stays):
                        continue
                    family = told(book, width)
                    values = [family[::-1], tuple(family), family + family[-1:], family + [None], family + [("z",)],
                              [list(part) for part in family], family[:-1] + [family[-1] + ("z",)], {part: 1 for part in family}]
                    values += [family[:at] + family[at + 1:] for at in range(len(family))]
                    values += [sorted(set(family) | {part}) for part in every_row(names_in(rows))]
                    for value in values:
                        self.assertIs(judge(book, width, value), is_family(rows, value, width, stays), (rows, width, value))

    def test_any_objects(self):
        for rows in [TWO, [], [()], [("a",)]]:
            for value in any_objects():
                for width in [0, 1]:
                    self.assertIs(is_closed_family(Book(rows), width, value), is_family(rows, value, width, stays_closed))
                    self.assertIs(is_broad_family(Book(rows), width, value), is_family(rows, value, width, stays_broad))

    def test_edges(self):
        for width in [0, 1, 60]:
            self.assertEqual([closed_family(Book([]), width), broad_family(Book([]), width)], [[()], [()]])
            for function in [closed_family, broad_family, points_of_broad]:
                self.fails(Refused, width, function, Book([()]), width)
        for function in [closed_family, broad_family, points_of_broad, makes, one_sided_makes, ending, one_sided_ending]:
            for width in [-1, True, None, "1", [1], (1,)]:
                self.fails(InvalidNumber, width, function, Book([]), width)
            self.fails(InvalidBook, "a", function, "a", 1)

    def test_points_of_broad_families(self):
        for rows in SMALL[::5] + CHANCE[:20:2] + CHANCE[-4:] + NAMED:
            book = Book(rows)
            for width in [0, 1, 2, 3]:
                if not greatest(rows, width, stays_broad):
                    self.fails(Refused, width, points_of_broad, book, width)
                    continue
                points = points_of_broad(book, width)
                self.assertEqual(shown(points), shown(points_plainly(rows, width)), (rows, width))
                self.assertTrue(is_score(rows, points))
                self.assertGreater(points[()], width)


class RecordTest(FailsCase):
    def test_endings_by_records(self):
        for rows in SMALL[::2] + CHANCE + NAMED + [ALIKE, guests(3, 2), copies(2, 2), signs(list("abcd"))]:
            if can_fill(frozenset(rows)):
                continue
            book = Book(rows)
            self.check(rows, record_of(book, least_depth(book)))

    def check(self, rows, record):
        book = Book(rows)
        lines = ending_by_record(book, record)
        clauses, _, one_sided = followed(rows, lines)
        self.assertEqual(clauses[-1], ())
        depth = depth_of_record(book, record)
        self.assertLessEqual(one_sided, depth)
        self.assertIs(is_ending_by_record(book, record, lines), True)
        for value in itertools.islice(bent(lines, names_in(rows)[:2]), 60):
            told = followed(rows, value)
            right = told is not None and told[0][-1:] == [()] and told[2] <= depth
            self.assertIs(is_ending_by_record(book, record, value), right)

    def test_records_of_all_trees_of_small_books(self):
        for rows in [TWO, chain(["a", "b"]), [(), ("a",)], signs(["a"]), [("a",), ("-a",), ("-a", "b"), ("b",)]]:
            for tree in every_plan(rows)[:200]:
                self.check(rows, record_of_tree(Book(rows), tree))

    def test_records_that_try_what_does_not_matter(self):
        # The record in the first tuple does not use what is tried, so it ends alone.
        rows = [("a",), ("-a",), ("-b", "c"), ("b",)]
        self.check(rows, [("b", [("c", [("a", [("a",)]), ("-a",)]), ("a", [("a",)]), ("-a",)]), ("a", [("a",)]), ("-a",)])
        self.check(rows, [("b", [("b",)]), ("c", [("-b", "c")]), ("a", [("a",)]), ("-a",)])

    def test_wrong_records_and_any_objects(self):
        book, record = Book(TWO), record_of(Book(TWO), 2)
        for value in [record[1:], tuple(record), None, [], [()], record + record]:
            self.fails(InvalidLook, value, ending_by_record, book, value)
            self.fails(InvalidLook, value, is_ending_by_record, book, value, ending(book, 1))
        for value in any_objects():
            self.assertIs(is_ending_by_record(book, record, value), False)
        # As wide as the record is deep, but no more.
        self.assertIs(is_ending_by_record(book, record, one_sided_ending(book, 2)), True)


if __name__ == "__main__":
    unittest.main()
