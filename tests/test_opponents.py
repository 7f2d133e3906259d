"""Points 42 to 48: families with points, plays along trees, thinned families, and papers of both kinds."""

import itertools
import unittest

from lookdepths.books import Book
from lookdepths.errors import (
    Filled, InvalidFilling, InvalidNumber, InvalidPoints, InvalidTree, InvalidVariable, Refused,
)
from lookdepths.opponents import (
    are_points, family_for, greatest_points, is_family_for, is_paper_for, is_thinned, paper_for, played, points_of,
    said, thinned, weakest_places,
)
from tests.helper import (
    any_objects, both, can_fill, chain, copies, depths_of_all, every_book, every_plan, every_row, is_leaf, is_plan,
    is_score, names_in, plan_order, pseudo_books, ring, row, seen_depth, signs,
)

TWO = [("a", "b"), ("-b", "a"), ("-a", "b"), ("-a", "-b")]
FREE = [("a", "b", "c"), ("-a", "b"), ("-b", "c")]
SMALL = every_book(["a", "b"], 9)
CHANCE = (pseudo_books(31, 40, ["a", "b", "c"], 7, 3, 2) + pseudo_books(32, 20, ["a", "b", "c"], 10, 3, 2)
          + pseudo_books(33, 12, ["a", "b", "c", "d"], 12, 3, 2) + pseudo_books(34, 8, ["a", "b", "c", "d"], 18, 4, 3)
          + pseudo_books(35, 3, ["a", "b", "c", "d", "e"], 20, 4, 2))
NAMED = [TWO, FREE, signs(["a"]), signs(["a", "b", "c"]), ring(["a", "b", "c"]), chain(["a", "b", "c"]), copies(1, 3),
         copies(2, 2), [()], [], [(), ("a",)], [("a",)]]
ALL = SMALL + CHANCE + NAMED
FEW = SMALL[::25] + CHANCE[::8] + NAMED[:6] + NAMED[8:]


def bent(family, names):
    """Whatever comes of a family with points if one place of it is bent."""
    yield list(family.items())
    yield tuple(family)
    for part in family:
        others = {other: family[other] for other in family if other != part}
        yield others
        for many in [family[part] - 1, family[part] + 1, 0, True, None, str(family[part]), [1], (1,)]:
            yield {**others, part: many}
        for literal in both([*names, "z"]):
            yield {**family, row(*part, literal): family[part]}
            yield {**others, row(*part, literal): family[part]}
            yield {**family, part + (literal,): 1}
        yield {**others, " ".join(part): family[part]}
    for value in [None, 0, "", "a", (None,), ((),)]:
        yield {**family, value: 1}


def may_be_less(rows, family, part):
    """Whether a family without one part-filling is one, with as many points for the empty one."""
    less = {other: family[other] for other in family if other != part}
    return is_score(rows, less) and less[()] == family[()]


def families_of(rows):
    """Some families: told ones, and what comes of them if entries are left out or have fewer points."""
    found = []
    for points in [1, 2, 3]:
        try:
            family = family_for(Book(rows), points)
        except Refused:
            continue
        found.append(family)
        for part in sorted(family)[:12]:
            found.append({other: family[other] for other in family if other != part})
            found.append({**family, part: family[part] - 1})
    return [family for family in found if is_score(rows, family)]


class FamilyTest(unittest.TestCase):
    def test_told_families_and_bent_ones(self):
        for rows in [TWO, FREE, ring(["a", "b", "c"]), signs(["a"]), [("a",)], [], chain(["a", "b"])]:
            book, right, wrong = Book(rows), 0, 0
            for points in [1, 2] if rows != signs(["a"]) and rows != chain(["a", "b"]) else [1]:
                for value in [family_for(book, points), *bent(family_for(book, points), names_in(rows))]:
                    told = is_score(rows, value)
                    right, wrong = right + told, wrong + (not told)
                    self.assertIs(are_points(book, value), told, (rows, value))
                    if told:
                        self.assertEqual(points_of(book, value), value[()])
                    else:
                        with self.assertRaises(InvalidPoints) as seen:
                            points_of(book, value)
                        self.assertIs(seen.exception.value, value)
            self.assertTrue(right and wrong)

    def test_all_small_families(self):
        for rows in [TWO, signs(["a"]), [("a",)], [], [("a", "b")], [("a",), ("-a", "b")], [()]]:
            parts = every_row(names_in(rows))
            for counts in itertools.product([0, 1, 2], repeat=len(parts)):
                family = {part: many for part, many in zip(parts, counts) if many}
                self.assertIs(are_points(Book(rows), family), is_score(rows, family))

    def test_any_objects_are_judged(self):
        for rows in [TWO, [], [()], [("a",)], FREE]:
            for value in any_objects():
                self.assertIs(are_points(Book(rows), value), is_score(rows, value))
                for points in [1, 2]:
                    told = is_score(rows, value) and value[()] >= points
                    self.assertIs(is_family_for(Book(rows), points, value), told)

    def test_one_exactly_if_a_lesser_look_does_not_show_the_book(self):
        for rows in ALL:
            book, depth = Book(rows), seen_depth(rows)
            for points in range(1, 6):
                if depth is None or depth >= points:
                    family = family_for(book, points)
                    self.assertTrue(is_score(rows, family))
                    self.assertGreaterEqual(family[()], points)
                    self.assertIs(is_family_for(book, points, family), True)
                    self.assertIs(is_family_for(book, points_of(book, family) + 1, family), False)
                    self.assertEqual(list(family), sorted(family))
                else:
                    with self.assertRaises(Refused) as seen:
                        family_for(book, points)
                    self.assertIs(seen.exception.value, points)

    def test_many_points_where_the_book_can_be_filled(self):
        for rows in [[], FREE, [("a",)]]:
            self.assertTrue(is_score(rows, family_for(Book(rows), 60)))
            self.assertEqual(points_of(Book(rows), family_for(Book(rows), 60)), 60)

    def test_wrong_numbers(self):
        for function, more in [(family_for, []), (is_family_for, [{}]), (paper_for, []), (is_paper_for, [None])]:
            for points in [0, -1, True, False, None, "1", [1], (1,)]:
                for rows in [TWO, FREE, [()]]:
                    with self.assertRaises(InvalidNumber) as seen:
                        function(Book(rows), points, *more)
                    self.assertIs(seen.exception.value, points)


class GreatestTest(unittest.TestCase):
    def test_against_the_least_depths_of_all_rests(self):
        for rows in ALL:
            book = Book(rows)
            if can_fill(frozenset(rows)) or () in rows:
                with self.assertRaises(Filled if can_fill(frozenset(rows)) else Refused) as seen:
                    greatest_points(book)
                self.assertIs(seen.exception.value, book)
                continue
            depths = {part: depth for part, depth in depths_of_all(rows).items() if depth > 0}
            family = greatest_points(book)
            self.assertEqual(list(family.items()), sorted(depths.items()))
            self.assertTrue(is_score(rows, family))

    def test_no_family_has_more(self):
        for rows in [TWO, signs(["a"]), [("a", "b"), ("-b",), ("-a",)]]:
            greatest, parts = greatest_points(Book(rows)), every_row(names_in(rows))
            for counts in itertools.product(range(4), repeat=len(parts) if len(parts) < 5 else 0):
                family = {part: many for part, many in zip(parts, counts) if many}
                if is_score(rows, family):
                    self.assertTrue(all(family[part] <= greatest[part] for part in family))
            for part in greatest:
                self.assertFalse(are_points(Book(rows), {**greatest, part: greatest[part] + 1}))


class SaidTest(unittest.TestCase):
    def test_said(self):
        for rows in FEW:
            for family in families_of(rows)[::1 if len(names_in(rows)) < 3 else 12]:
                book = Book(rows)
                for part in family:
                    for name in [name for name in names_in(rows) if name not in part and "-" + name not in part]:
                        high, low = [family.get(row(*part, literal), 0) for literal in (name, "-" + name)]
                        told = True if high >= family[part] else False if low >= family[part] else None
                        self.assertIs(said(book, family, part, name), told)

    def test_edges(self):
        family = {(): 2, ("a",): 2, ("-a",): 2, ("a", "b"): 2, ("-a", "b"): 2, ("b",): 2}
        book = Book([("b",)] + [("a", "b")])
        self.assertEqual([said(book, family, (), "a"), said(book, family, ("a",), "b")], [True, True])
        self.assertEqual(said(book, {(): 1}, (), "a"), None)
        self.assertEqual(said(Book([("-a",)]), {(): 1, ("-a",): 1}, (), "a"), False)
        self.assertEqual(said(Book([("-a",)]), {(): 2, ("-a",): 2}, (), "a"), False)

    def test_wrong_arguments(self):
        book, family = Book(TWO), greatest_points(Book(TWO))
        for part in [("a", "b"), ("-a", "b"), ("z",), ["a"], None, ("b", "a"), "a", [], {}]:
            with self.assertRaises(InvalidFilling) as seen:
                said(book, family, part, "a")
            self.assertIs(seen.exception.value, part)
        for variable in ["a", "-a", "-b", "z", None, ["b"], ("b",), "", 1]:
            with self.assertRaises(InvalidVariable) as seen:
                said(book, family, ("-a",), variable)
            self.assertIs(seen.exception.value, variable)
        with self.assertRaises(InvalidPoints):
            said(book, {}, None, None)


def play_plainly(rows, family, plan):
    """A play along a tree, as point 46 says it."""
    part, turns, won = (), [], 0
    while not is_leaf(plan) and won < family[()]:
        name, high, low = plan
        counts = [family.get(row(*part, literal), 0) for literal in (name, "-" + name)]
        free = max(counts) < family[part]
        value = plan_order(high) <= plan_order(low) if free else counts[0] >= family[part]
        turns.append((name, free, value))
        won += free
        part, plan = row(*part, name if value else "-" + name), high if value else low
    return turns, won


class PlayTest(unittest.TestCase):
    def test_plays_along_all_trees(self):
        for rows in [TWO, signs(["a"]), chain(["a", "b"]), [("a",), ("-a",), ("b",)], ring(["a", "b", "c"]),
                     signs(["a", "b", "c"]), chain(["a", "b", "c"]), *CHANCE[:6]]:
            if can_fill(frozenset(rows)):
                continue
            book = Book(rows)
            plans = every_plan(rows, late=len(names_in(rows)) < 3)
            for family in families_of(rows):
                for plan in plans[:60] + plans[-30:]:
                    turns, won = played(book, family, plan)
                    self.assertEqual((turns, won), play_plainly(rows, family, plan))
                    self.assertEqual(won, family[()])
                    self.assertLessEqual(won, plan_order(plan))
                    self.assertEqual(sum(free is True for _, free, _ in turns), won)

    def test_trees_cut_late(self):
        book = Book([("a",), ("-a",), ("b",)])
        late = ("b", ("a", ("-a",), ("a",)), ("a", ("-a",), ("a",)))
        self.assertEqual(played(book, {(): 1, ("b",): 1}, late), ([("b", False, True), ("a", True, True)], 1))
        self.assertEqual(played(book, {(): 1}, late), ([("b", True, True)], 1))
        self.assertEqual(played(book, {(): 1}, ("b", late[1], ("b",))), ([("b", True, False)], 1))
        for other in [("a", ("-a",), ("b", ("a",), ("a",))), ("a", ("b", ("-a",), ("-a",)), ("a",))]:
            turns = [("a", True, other[1] == ("-a",))]
            self.assertEqual(played(book, {(): 1, ("b",): 1}, other), (turns, 1))

    def test_wrong_arguments(self):
        book, family = Book(TWO), greatest_points(Book(TWO))
        tree = every_plan(TWO)[0]
        for value in [{}, {(): 3}, None, {**family, (): 3}, {("a",): 1}, [()]]:
            with self.assertRaises(InvalidPoints) as seen:
                played(book, value, tree)
            self.assertIs(seen.exception.value, value)
        for value in [(), ("a", "b"), None, ("a", ("a", "b"), ()), list(tree), ("z", (), ())]:
            with self.assertRaises(InvalidTree) as seen:
                played(book, family, value)
            self.assertIs(seen.exception.value, value)


class ThinnedTest(unittest.TestCase):
    def test_weakest_places(self):
        for rows in FEW:
            for family in families_of(rows)[::1 if len(names_in(rows)) < 4 else 8]:
                places = [part for part in sorted(family) if may_be_less(rows, family, part)]
                self.assertEqual(weakest_places(Book(rows), dict(reversed(family.items()))), places)

    def test_thinned(self):
        for rows in FEW:
            book = Book(rows)
            for family in families_of(rows):
                thin = thinned(book, family)
                self.assertTrue(is_score(rows, thin))
                self.assertTrue(all(family[part] == thin[part] for part in thin))
                self.assertEqual(thin[()], family[()])
                self.assertEqual(list(thin), sorted(thin))
                self.assertFalse(any(may_be_less(rows, thin, part) for part in thin))
                self.assertIs(is_thinned(book, family, thin), True)
                self.assertIs(is_thinned(book, family, family), weakest_places(book, family) == [])

    def test_is_thinned(self):
        for rows in [TWO, FREE, ring(["a", "b", "c"]), [("a",)], [], [("a", "b")]]:
            book = Book(rows)
            for family in families_of(rows)[:8]:
                thin = thinned(book, family)
                thinner = [thin, family, *bent(thin, names_in(rows)), *families_of(rows)]
                for value in thinner:
                    told = is_score(rows, value) and all(family.get(part) == value[part] for part in value)
                    told = told and value[()] == family[()]
                    told = told and not any(may_be_less(rows, value, part) for part in value)
                    self.assertIs(is_thinned(book, family, value), told)

    def test_fewer_points_are_not_thinned(self):
        book = Book(signs(["a", "b"]))
        self.assertFalse(is_thinned(book, greatest_points(book), {(): 1}))
        self.assertTrue(is_thinned(book, {(): 1, ("a",): 1}, {(): 1}))
        self.assertFalse(is_thinned(Book([("a",)]), {(): 2, ("a",): 2}, {(): 2, ("a",): 3}))
        self.assertTrue(is_thinned(Book([("a",)]), {(): 2, ("a",): 3}, {(): 2, ("a",): 3}))

    def test_any_objects_are_judged(self):
        family = greatest_points(Book(TWO))
        for value in any_objects():
            self.assertIs(is_thinned(Book(TWO), family, value), value == family)

    def test_wrong_families(self):
        for function, more in [(weakest_places, []), (thinned, []), (is_thinned, [None])]:
            for family in [{}, None, {(): 3}, {(): 0}, [()], {(): True}, {("a",): 1}]:
                with self.assertRaises(InvalidPoints) as seen:
                    function(Book(TWO), family, *more)
                self.assertIs(seen.exception.value, family)


class PaperTest(unittest.TestCase):
    def is_paper(self, rows, points, value):
        if not isinstance(value, tuple) or len(value) != 2 or not isinstance(value[0], str):
            return False
        if value[0] == "family":
            return is_score(rows, value[1]) and value[1][()] >= points
        return value[0] == "tree" and is_plan(rows, value[1]) and plan_order(value[1]) < points

    def test_each_answer_has_its_paper(self):
        for rows in ALL:
            book, depth = Book(rows), seen_depth(rows)
            for points in range(1, 6):
                paper = paper_for(book, points)
                self.assertEqual(paper[0], "family" if depth is None or depth >= points else "tree")
                self.assertTrue(self.is_paper(rows, points, paper))
                self.assertIs(is_paper_for(book, points, paper), True)

    def test_papers_of_the_other_kind_and_bent_ones(self):
        for rows in [TWO, signs(["a"]), ring(["a", "b", "c"]), FREE, [()], []]:
            book = Book(rows)
            values = [paper_for(book, points) for points in range(1, 4)]
            for word, paper in list(values):
                values += [[word, paper], (word,), (paper, word), (word, paper, paper), (word, [paper]), (word, ()),
                           ("tree", paper), ("family", paper), ("Tree", paper), (None, paper), (word, None), paper]
                values += [("family", value) for value in (bent(paper, ["a", "b"]) if word == "family" else [])]
            values += [("tree", plan) for plan in every_plan(rows, late=False)[:20]]
            for value in values:
                for points in range(1, 4):
                    self.assertIs(is_paper_for(book, points, value), self.is_paper(rows, points, value))

    def test_any_objects_are_judged(self):
        for rows in [TWO, FREE, [()], [], signs(["a"])]:
            for value in any_objects():
                for points in [1, 2]:
                    self.assertIs(is_paper_for(Book(rows), points, value), self.is_paper(rows, points, value))


if __name__ == "__main__":
    unittest.main()
