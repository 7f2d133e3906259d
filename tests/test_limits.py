"""Point 3: calls at the limits come to their end, so soon that many of them can be asked in a row."""

import time
import unittest

from lookdepths.books import Book
from lookdepths.depths import (
    all_depths, closing, deepest, depth_of, depths_counted, follows, is_closed, is_closing, is_deepest, is_least,
    least_following, seen_at, unseen,
)
from lookdepths.desk import Desk, replayed
from lookdepths.errors import LookError
from lookdepths.fillings import (
    any_filling, any_trap, fillings_of, first_way, goes_through, is_trap, is_way, looks_used, many_fillings, may_set,
    sure_depth, sure_literals, traps,
)
from lookdepths.joins import (
    broad_family, clauses_by, closed_family, ending, ending_by_record, is_broad_family, is_closed_family, is_derivation,
    is_ending, is_ending_by_record, least_one_sided, least_width, made_with, makes, one_sided_ending, one_sided_makes,
    one_sided_of, partners, points_of_broad, width_of,
)
from lookdepths.lemmas import best_lemmas, fewest_lemmas, gain_of, gains, is_row, row_of_tree, shortest_row
from lookdepths.looks import (
    clauses_in, depth_at, depth_of_record, depths_below, forced, forced_by, is_record, least_depth, left_by, record_of,
    shown_literals, shows,
)
from lookdepths.makes import book_of, points_told, tree_told
from lookdepths.opponents import (
    are_points, family_for, greatest_points, is_family_for, is_paper_for, is_thinned, paper_for, played, points_of,
    said, thinned, weakest_places,
)
from lookdepths.papers import (
    book_text, derivation_text, look_text, parts_text, points_text, read_book, read_derivation, read_look, read_parts,
    read_points, read_tree, tree_text,
)
from lookdepths.parts import (
    any_core, core_depths, cores, depth_beside, depth_by_pieces, depths_of_values, first_places, is_core,
    keeping_literals, needed_clauses, splitting_variables,
)
from lookdepths.scripts import end_of, play, read_script, script_text, shortened
from lookdepths.trees import (
    asked_on, book_of_tree, fewest_at, fewest_leaves, heights, is_least_tree, is_tree, is_tree_of_fewest, leaf_at,
    leaves_by_order, leaves_of, least_tree, order_of, record_of_tree, tree_of_fewest, tree_of_record, ways_to_leaves,
)
from tests.helper import chain, copies, every_row, guests, names_in, pseudo_books, ring, signs

EIGHT = [copies(4, 2), copies(2, 4), copies(1, 8), guests(4, 2), ring(list("abcdefgh")), chain(list("abcdefgh"))]
SIX = [signs(list("abcd")), ring(list("abcdef")), guests(3, 2), guests(6, 1),
       *pseudo_books(41, 4, list("abcdef"), 24, 5, 2)]
FIVE = [*pseudo_books(42, 4, list("abcde"), 24, 5, 2), *pseudo_books(43, 3, list("abcde"), 24, 3, 3),
        [("a", "b", "c", "d", "e")], signs(list("abcd")) + [("e",)]]
LOOKS = [(shows, [8]), (forced, [8]), (left_by, [8]), (shown_literals, [8]), (record_of, [8]), (least_depth, []),
         (depths_below, [])]
TREES = [(least_tree, []), (fewest_leaves, []), (fewest_at, [8]), (tree_of_fewest, [8]), (leaves_by_order, [])]
DEPTHS = [(least_following, []), (depth_of, []), (deepest, []), (is_deepest, [()]), (is_closed, [8]), (unseen, [0]),
          (all_depths, []), (depths_counted, []), (closing, [])]
# Far more than any of them takes: a call that walks through all trees, or all orders, takes hours.
SECONDS = 20


def asked(function, *arguments):
    """What a call returns, None if it raises an error of the package."""
    try:
        return function(*arguments)
    except LookError:
        return None


class LimitsTest(unittest.TestCase):
    def setUp(self):
        self.begin = time.monotonic()

    def tearDown(self):
        self.assertLess(time.monotonic() - self.begin, SECONDS)

    def test_looks_and_trees_of_eight_variables(self):
        for rows in EIGHT + SIX:
            book = Book(rows)
            for function, more in LOOKS + TREES:
                asked(function, book, *more)
            asked(forced_by, book, 8, book.variables()[::-1])
        self.assertEqual([least_depth(Book(rows)) for rows in EIGHT], [5, 3, 2, 2, 2, 1])
        self.assertEqual([fewest_leaves(Book(rows)) for rows in EIGHT[:3] + EIGHT[4:]], [46, 22, 16, 16, 9])

    def test_papers_of_eight_variables(self):
        for rows in EIGHT:
            book, tree = Book(rows), least_tree(Book(rows))
            record = record_of(book, 8)
            self.assertTrue(is_tree(book, tree) and is_least_tree(book, tree) and is_record(book, 8, record))
            self.assertTrue(is_tree_of_fewest(book, 8, tree_of_fewest(book, 8)))
            self.assertEqual(tree_of_record(book, record_of_tree(book, tree)), tree)
            self.assertEqual(clauses_in(book, record), leaves_of(book, tree_of_record(book, record)))
            self.assertEqual([depth_of_record(book, record), order_of(book, tree)], [least_depth(book)] * 2)
            whole = tuple(book.variables())
            self.assertEqual(len(ways_to_leaves(book, tree)), len(heights(book, tree)))
            self.assertEqual(leaf_at(book, tree, whole) in rows, bool(asked_on(book, tree, whole)))

    def test_depths_at_all_part_fillings_of_six_variables(self):
        for rows in SIX[1:3]:
            book = Book(rows)
            for part in every_row(names_in(rows)):
                asked(depth_at, book, part)
            for clause in every_row(names_in(rows), 3):
                for function in [follows, is_least, seen_at]:
                    asked(function, book, clause)

    def test_depths_of_five_variables(self):
        for rows in FIVE:
            book = Book(rows)
            for function, more in DEPTHS:
                function(book, *more)
            self.assertTrue(is_closing(book, 8, closing(book)))

    def test_families_of_five_variables(self):
        for rows in FIVE:
            book = Book(rows)
            paper = paper_for(book, 3)
            self.assertTrue(is_paper_for(book, 3, paper))
            family = asked(family_for, book, 1)
            if family is not None:
                self.assertTrue(are_points(book, family) and is_family_for(book, 1, family))
                self.assertTrue(is_thinned(book, family, thinned(book, family)))
            asked(greatest_points, book)

    def test_families_of_nearly_729_part_fillings(self):
        book = Book(signs(list("abcdef"))[:1])
        family = family_for(book, 5)
        self.assertEqual([len(family), points_of(book, family)], [728, 5])
        for name in book.variables():
            self.assertIs(said(book, family, (), name), True)
        self.assertGreater(len(weakest_places(book, family)), 0)
        self.assertTrue(is_thinned(book, family, thinned(book, family)))
        book = Book(ring(list("abcdef")))
        self.assertEqual(played(book, greatest_points(book), least_tree(book))[1], 2)

    def test_trees_of_64_leaves(self):
        # All places of a full tree ask unlike variables; and a tree of one long way.
        full, names = [()] * 64, [one + other for one in "abcdefgh" for other in "abcdefgh"]
        while len(full) > 1:
            full = [(names.pop(), full[at], full[at + 1]) for at in range(0, len(full), 2)]
        book = book_of_tree(full[0])
        self.assertEqual([len(book.clauses()), len(book.variables())], [64, 63])
        long = ()
        for name in "abcdefghijklmnopqrstuvwxyz":
            long = (name, (), long)
        self.assertEqual(len(book_of_tree(long).clauses()), 27)
        six = Book(signs(list("abcdef")))
        tree = least_tree(six)
        self.assertEqual([order_of(six, tree), leaves_of(six, tree), fewest_leaves(six)], [6, 64, 64])
        self.assertEqual(tree_of_record(six, record_of_tree(six, tree)), tree)

    def test_widths_of_five_variables(self):
        for rows in FIVE + [*pseudo_books(44, 4, list("abcde"), 24, 3, 2), *pseudo_books(45, 4, list("abcde"), 12, 2, 2)]:
            for width in [*range(6), 60]:
                book = Book(rows)
                self.assertLessEqual(len(makes(book, width)), 243)
                self.assertLessEqual(len(one_sided_makes(book, width)), 243)
                for function in [ending, one_sided_ending, made_with, partners]:
                    asked(function, book, ("a",) if function in [made_with, partners] else width)
            lines = asked(ending, book, asked(least_width, book))
            if lines is not None:
                self.assertTrue(is_derivation(book, lines) and is_ending(book, least_width(book), lines))
                self.assertLessEqual(one_sided_of(book, lines), width_of(book, lines) + 1)
                self.assertEqual(clauses_by(book, lines)[-1], ())
                record = record_of(book, 8)
                self.assertTrue(is_ending_by_record(book, record, ending_by_record(book, record)))
                self.assertLessEqual(least_one_sided(book), least_depth(book))

    def test_records_of_eight_variables_make_derivations(self):
        for rows in EIGHT + SIX[:4]:
            book = Book(rows)
            record = record_of(book, 8)
            self.assertTrue(is_ending_by_record(book, record, ending_by_record(book, record)))

    def test_broad_and_closed_families_of_four_variables(self):
        for rows in [*pseudo_books(46, 10, list("abcd"), 8, 3, 2), *pseudo_books(47, 10, list("abcd"), 20, 4, 3),
                     [("a", "b", "c", "d")], ring(list("abcd")), signs(list("abcd"))[:15]]:
            for width in [*range(5), 60]:
                book = Book(rows)
                for told, judge in [(closed_family, is_closed_family), (broad_family, is_broad_family)]:
                    family = asked(told, book, width)
                    self.assertTrue(family is None or judge(book, width, family))
                    self.assertFalse(judge(book, width, [] if family is None else family[::-1] + family))
                points = asked(points_of_broad, book, width)
                self.assertTrue(points is None or are_points(book, points))

    def test_fillings_and_solving_of_five_variables(self):
        for rows in FIVE:
            book = Book(rows)
            for function in [fillings_of, many_fillings, any_filling, sure_literals, sure_depth]:
                asked(function, book)
            for depth in range(9):
                self.assertIs(goes_through(book, depth), traps(book, depth) == [])
                self.assertIs(is_trap(book, depth, any_trap(book, depth)), any_trap(book, depth) is not None)
                for part in every_row(names_in(rows), 2):
                    self.assertTrue(is_way(book, part, depth, first_way(book, part, depth)))
                    self.assertGreaterEqual(len(may_set(book, part, depth)), len(looks_used(book, part, depth)) > 0)

    def test_makes_of_many_variables(self):
        for make in [("signs", 6), ("ring", 8), ("chain", 8), ("copies", 4, 2), ("copies", 1, 8), ("guests", 4, 2),
                     ("guests", 8, 1)]:
            self.assertTrue(is_least_tree(book_of(make), tree_told(make)))
        self.assertEqual(len(points_told(("signs", 6))), 665)

    def test_parts_of_books(self):
        some = [*pseudo_books(48, 6, list("abcde"), 10, 3), *pseudo_books(49, 6, list("abcd"), 10, 2),
                signs(list("abc")) + [("d",), ("-d",)], [row for row in every_row(["a"])] + signs(["b", "c"])]
        for rows in some:
            book = Book(rows)
            for function in [cores, core_depths, needed_clauses, keeping_literals, splitting_variables, first_places]:
                asked(function, book)
            for core in cores(book):
                self.assertTrue(is_core(book, core))
            asked(depths_of_values, book, "a")
            self.assertEqual(depth_by_pieces(book), depth_of(book))
            depth_beside(book, Book([("x", "y")]))
        for rows in FIVE + SIX + EIGHT:
            core = any_core(Book(rows))
            self.assertTrue(core is None or is_core(Book(rows), core))

    def test_lemmas_of_five_variables(self):
        for rows in FIVE + [*pseudo_books(50, 4, list("abcde"), 16, 3, 2)]:
            book = Book(rows)
            for number in [0, 1, 2, 60]:
                found = gains(book, number)
                self.assertTrue(set(best_lemmas(book, number)) <= set(found))
            for clause in every_row(names_in(rows), 1):
                asked(gain_of, book, clause)
        for rows in SIX:
            tree = asked(least_tree, Book(rows))
            if tree is not None and tree not in rows:
                self.assertTrue(is_row(Book(rows), 1, row_of_tree(Book(rows), tree)))

    def test_fewest_lemmas_of_three_variables(self):
        for rows in [signs(list("abc")), *pseudo_books(51, 40, list("abc"), 8, 3, 2), *pseudo_books(52, 40, list("abc"), 12, 3)]:
            for depth in range(9):
                row = asked(shortest_row, Book(rows), depth)
                if row is not None:
                    self.assertTrue(is_row(Book(rows), depth, row) and fewest_lemmas(Book(rows), depth) == len(row))

    def test_desks_of_a_hundred_commands(self):
        desk = Desk()
        for rows in [SIX[1], SIX[5], FIVE[0], ring(list("uvwxyz"))]:
            desk.put(Book(rows))
        for turn in range(24):
            name = desk.book_there(turn % 4).variables()[turn % 5]
            for _ in range(2):
                desk.choose(turn % 4, name)
                desk.shown_spots(8)
                desk.back(turn % 4, name)
            desk.least_there(turn % 4)
            desk.alike_spots(turn % 4)
            desk.undo()
            desk.undo()
        self.assertEqual([len(desk.log()), desk.spots()], [52, [0, 1, 2, 3]])
        self.assertEqual(replayed(Desk(), desk.log()).log(), desk.log())
        desk.lay(0, 3)
        self.assertEqual([desk.least_there(0), len(desk.book_there(0).variables())], [2, 12])
        for _ in range(53):
            desk.undo()
        self.assertEqual(desk.spots(), [])

    def test_scripts_of_twelve_commands(self):
        script = [("put", Book(SIX[1])), ("put", Book(SIX[5])), ("force", 1, 1), ("least_there", 0), ("choose", 0, "a"),
                  ("try", [("undo",), ("try", [("undo",), ("try", [("redo",), ("try", [("shown_spots", 8)])])])])]
        for _ in range(40):
            self.assertEqual(read_script(script_text(script)), script)
            self.assertEqual(end_of(shortened(script)), end_of(script))
            self.assertEqual(len(play(Desk(), script)), 6)

    def test_texts_of_250_lines_of_400_signs(self):
        long = tuple(sorted(one + other + "abcdef" for one in "abcdef" for other in "abcdefg"))
        texts = [(parts_text, read_parts, [long] * 250), (derivation_text, read_derivation, [long] * 125 + [(10 ** 29, 1, "a")] * 125),
                 (points_text, read_points, {part: 10 ** 29 for part in sorted(every_row(list("abcde")))[:243]}),
                 (look_text, read_look, [("a", [long])] * 100 + [long])]
        tree = long
        for _ in range(124):
            tree = ("abcdefgh", ("a",), tree)
        for writer, reader, paper in [*texts, (tree_text, read_tree, tree)]:
            for _ in range(20):
                self.assertEqual(reader(writer(paper)), paper)
        text = "\n".join(one + other for one in "abcdefghij" for other in "abcdefghijklmnopqrstuvwxy")
        for _ in range(20):
            self.assertEqual(book_text(read_book(text)), text)

    def test_many_calls_in_a_row(self):
        book = Book(copies(2, 3))
        for depth in range(9):
            for _ in range(10):
                shows(book, depth)
                shown_literals(book, depth)
        self.assertEqual(leaves_by_order(book), {3: 16})


if __name__ == "__main__":
    unittest.main()
