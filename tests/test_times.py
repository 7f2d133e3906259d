"""Judges and tellers that are asked many times in a row: each row of calls within a second, answers as ever."""

import time
import unittest

from lookdepths.books import Book, all_parts, rest
from lookdepths.depths import (
    all_depths, closing, depths_counted, follows, is_closing, is_deepest, is_least, least_following, seen_at,
)
from lookdepths.errors import Filled, Refused
from lookdepths.looks import depth_at, least_depth
from lookdepths.opponents import (
    are_points, family_for, greatest_points, is_family_for, is_paper_for, is_thinned, paper_for, points_of, said,
    thinned, weakest_places,
)
from lookdepths.trees import fewest_at, is_tree_of_fewest, leaves_by_order, leaves_of, order_of, tree_of_fewest
from tests.helper import every_row, names_in, pseudo_books, row, scramble, shown

PAIRS = [row(one + "a", other + "b") for one in ["", "-"] for other in ["", "-"]]
SIX = [row(*pair, name) for pair in PAIRS for name in "cde"] + [row("-" + name, sign + "f") for name in "cde"
                                                               for sign in ["", "-"]]
FOUR = [row(*pair, name) for pair in PAIRS for name in "cd"] + [("-c",), ("-d",)]
SECONDS = 1


class TimesTest(unittest.TestCase):
    def soon(self, call, *arguments, times=1):
        """What the last one of some calls returns, once all of them came within a second."""
        begin = time.perf_counter()
        for _ in range(times):
            found = call(*arguments)
        self.assertLess(time.perf_counter() - begin, SECONDS, getattr(call, "__name__", call))
        return found

    def test_the_books(self):
        self.assertEqual([len(SIX), names_in(SIX), len(FOUR), names_in(FOUR)], [18, list("abcdef"), 10, list("abcd")])
        self.assertEqual([least_depth(Book(SIX)), least_depth(Book(FOUR))], [2, 2])

    def test_is_deepest_at_all_part_fillings(self):
        book, parts = Book(SIX), all_parts(Book(SIX))
        told = self.soon(lambda: [is_deepest(book, part) for part in parts])
        depths = {part: least_depth(rest(book, part)) for part in parts}
        self.assertEqual(told, [depths[part] == 2 for part in parts])
        self.assertEqual(self.soon(lambda: [is_deepest(book, None) for _ in range(729)]), [False] * 729)
        # Also of books that are made anew for each call.
        self.assertEqual(self.soon(lambda: [is_deepest(Book(SIX), part) for part in parts[::2]]), told[::2])

    def test_closings_and_trees_of_six_variables(self):
        book = Book(SIX)
        told, tree = closing(book), tree_of_fewest(book, 3)
        for asked in [lambda: book, lambda: Book(SIX)]:
            self.assertIs(self.soon(lambda: is_closing(asked(), 3, told), times=100), True)
            self.assertIs(self.soon(lambda: is_closing(asked(), 3, {}), times=100), False)
            self.assertIs(self.soon(lambda: is_tree_of_fewest(asked(), 3, tree), times=100), True)
            self.assertEqual(self.soon(lambda: fewest_at(asked(), 3), times=100), leaves_of(book, tree))
            self.assertEqual(self.soon(lambda: tree_of_fewest(asked(), 3), times=100), tree)
        self.assertEqual([self.soon(is_closing, book, 1, told, times=100), order_of(book, tree)], [False, 2])

    def test_families_of_four_variables(self):
        book = Book(FOUR)
        family = greatest_points(book)
        thin = thinned(book, family)
        for asked in [lambda: book, lambda: Book(FOUR)]:
            self.assertIs(self.soon(lambda: are_points(asked(), family), times=100), True)
            self.assertEqual(self.soon(lambda: points_of(asked(), family), times=100), 2)
            self.assertEqual(self.soon(lambda: weakest_places(asked(), family), times=100), weakest_places(book, family))
            self.assertEqual(self.soon(lambda: thinned(asked(), family), times=100), thin)
            self.assertIs(self.soon(lambda: is_thinned(asked(), family, thin), times=100), True)
            self.assertIs(self.soon(lambda: is_thinned(asked(), family, family), times=100), family == thin)
            self.assertIs(self.soon(lambda: is_family_for(asked(), 2, family), times=100), True)
            self.assertIs(self.soon(lambda: is_paper_for(asked(), 2, paper_for(book, 2)), times=100), True)
            self.assertEqual(self.soon(lambda: said(asked(), family, (), "a"), times=100), said(book, family, (), "a"))
            self.assertEqual(self.soon(lambda: least_following(asked()), times=100), [()])
            self.assertIs(self.soon(lambda: is_deepest(asked(), None), times=100), False)
            self.assertIs(self.soon(lambda: is_deepest(asked(), ()), times=100), True)
            self.assertIs(self.soon(lambda: is_closing(asked(), 3, closing(book)), times=100), True)
            self.assertEqual(self.soon(lambda: fewest_at(asked(), 3), times=100), leaves_by_order(book)[2])

    def test_rows_of_questions_about_many_books(self):
        for rows in [SIX[:14], FOUR, *pseudo_books(131, 4, list("abcde"), 14, 3, 2), *pseudo_books(132, 2, list("abcde"), 24, 4)]:
            book = Book(rows)
            clauses = sorted(every_row(names_in(rows), 3))
            for call in [follows, is_least, seen_at, depth_at]:
                self.soon(self.all_asked, call, book, clauses)
            for call in [all_depths, depths_counted, least_following]:
                self.soon(call, book, times=100)
            family = family_for(book, 1)
            for call in [points_of, weakest_places, are_points]:
                self.soon(call, book, family, times=100)
            for call in [family_for, paper_for]:
                self.soon(call, book, 1, times=100)

    def all_asked(self, call, book, clauses):
        for clause in clauses:
            try:
                call(book, clause)
            except (Refused, Filled) as error:
                self.assertIs(error.value, clause)

    def test_answers_stay_though_what_was_told_is_changed(self):
        book, other = Book(SIX), Book(SIX)
        calls = [(all_depths, []), (depths_counted, []), (least_following, []), (closing, []), (leaves_by_order, []),
                 (greatest_points, []), (family_for, [2]), (paper_for, [3]), (paper_for, [2]), (all_parts, [])]
        first = [shown(call(Book(SIX), *more)) for call, more in calls]
        for _ in range(3):
            for at, (call, more) in enumerate(calls):
                found = call(book, *more)
                self.assertEqual(shown(found), first[at])
                scramble(found)
                self.assertEqual(shown(call(other, *more)), first[at])
        # What was passed may be changed, too: a family that was judged is judged anew.
        family = greatest_points(book)
        for part in sorted(family):
            self.assertIs(are_points(book, family), True)
            points = family.pop(part)
            told = are_points(Book(SIX), dict(family))
            self.assertIs(are_points(book, family), told)
            family[part] = True
            self.assertIs(are_points(book, family), False)
            family[part] = points


if __name__ == "__main__":
    unittest.main()
