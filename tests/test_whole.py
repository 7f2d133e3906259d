"""The whole program: questions of all modules by turns, again and in other orders, are answered alike.

What was told before is changed in between, and the same books as well as equal ones are asked.
"""

import random
import unittest

from lookdepths import (
    books, depths, desk, fillings, joins, lemmas, looks, makes, opponents, papers, parts, scripts, trees,
)
from lookdepths.books import Book
from lookdepths.desk import Desk
from lookdepths.errors import LookError
from tests.helper import (
    chain, copies, every_row, names_in, pseudo_books, ring, scramble, shown, signs,
)

TWO = [("a", "b"), ("-b", "a"), ("-a", "b"), ("-a", "-b")]
HIDDEN = [("a", "b", "d"), ("-b", "a", "d"), ("-a", "b", "d"), ("-a", "-b", "d")]
SOME = [TWO, HIDDEN, ring(["a", "b", "c"]), chain(["a", "b", "c"]), signs(["a", "b", "c"]), copies(1, 3), [], [()], [("a",)],
        [(), ("a",)], [("a", "b", "c"), ("-a", "b"), ("-b", "c")], *pseudo_books(121, 6, ["a", "b", "c"], 6, 3),
        *pseudo_books(122, 3, ["a", "b", "c", "d"], 9, 3, 2), *pseudo_books(123, 2, ["a", "b", "c"], 10, 3, 2)]
ALONE = [
    books.all_parts, books.shrunk, books.pieces, looks.least_depth, looks.depths_below, depths.least_following,
    depths.depth_of, depths.deepest, depths.all_depths, depths.depths_counted, depths.closing, trees.least_tree,
    trees.fewest_leaves, trees.leaves_by_order, opponents.greatest_points, joins.least_width, joins.least_one_sided,
    fillings.fillings_of, fillings.many_fillings, fillings.any_filling, fillings.sure_literals, fillings.sure_depth,
    makes.is_short, makes.is_single, parts.depth_by_pieces, parts.cores, parts.any_core, parts.core_depths,
    parts.needed_clauses, parts.keeping_literals, parts.splitting_variables, parts.first_places, papers.book_text,
]
WITH_NUMBERS = [
    looks.shows, looks.forced, looks.left_by, looks.shown_literals, looks.record_of, depths.is_closed, depths.unseen,
    trees.fewest_at, trees.tree_of_fewest, opponents.family_for, opponents.paper_for, joins.makes, joins.one_sided_makes,
    joins.ending, joins.one_sided_ending, joins.closed_family, joins.broad_family, joins.points_of_broad,
    fillings.goes_through, fillings.traps, fillings.any_trap, lemmas.gains, lemmas.best_lemmas,
]
WITH_PARTS = [books.is_part, books.rest, books.broken, books.kept, books.is_filling, looks.depth_at, depths.follows,
              depths.is_least, depths.seen_at, depths.is_deepest, trees.is_tree, joins.partners, joins.made_with,
              lemmas.gain_of, opponents.are_points, joins.is_derivation]
WITH_BOTH = [fillings.may_set, fillings.first_way, fillings.looks_used]


def questions(rows):
    """The list of the tuples (function, arguments behind the book) of many questions about a book."""
    names = names_in(rows)
    some = sorted(every_row(names))
    found = [(function, ()) for function in ALONE]
    found += [(function, (number,)) for function in WITH_NUMBERS for number in [0, 1, 2, 3, 60, -1, True]]
    found += [(function, (part,)) for function in WITH_PARTS for part in [*some[::5], ("z",), None, {(): 1}, [()]]]
    found += [(function, (part, depth)) for function in WITH_BOTH for part in some[::7] for depth in [0, 1, 2]]
    found += [(looks.forced_by, (depth, names[::-1])) for depth in [0, 1, 2]]
    found += [(parts.depths_of_values, (name,)) for name in [*names, "z"]]
    if len(names) <= 3:
        found += [(function, (depth,)) for function in [lemmas.fewest_lemmas, lemmas.shortest_row] for depth in [0, 1, 2]]
    papers_of = [(looks.record_of, (4,)), (trees.least_tree, ()), (opponents.greatest_points, ()), (joins.ending, (4,)),
                 (depths.closing, ()), (joins.closed_family, (1,)), (fillings.any_filling, ()), (parts.any_core, ())]
    for teller, more in papers_of:
        value = asked(teller, Book(rows), more)
        if isinstance(value, LookError):
            continue
        found += [(function, (value,)) for function in [
            trees.is_tree, trees.is_least_tree, trees.order_of, trees.leaves_of, trees.heights, trees.record_of_tree,
            trees.ways_to_leaves, trees.tree_of_record, looks.clauses_in, looks.depth_of_record, opponents.are_points,
            opponents.points_of, opponents.weakest_places, opponents.thinned, joins.is_derivation, joins.clauses_by,
            joins.width_of, joins.one_sided_of, joins.ending_by_record, parts.is_core, lemmas.row_of_tree]]
        found += [(function, (number, value)) for number in [1, 2, 4] for function in [
            looks.is_record, depths.is_closing, trees.is_tree_of_fewest, opponents.is_family_for, opponents.is_paper_for,
            joins.is_ending, joins.is_one_sided_ending, joins.is_closed_family, joins.is_broad_family, fillings.is_trap,
            lemmas.is_row]]
    return found


def asked(function, book, more):
    """What a question is answered with, or the error."""
    try:
        return function(book, *more)
    except LookError as error:
        return error


def told(answer):
    """A text of an answer, or of an error and what it holds."""
    if isinstance(answer, LookError):
        return answer.__class__.__name__, shown(answer.value)
    return shown(answer)


class WholeTest(unittest.TestCase):
    def test_the_same_and_equal_books_by_turns(self):
        for at, rows in enumerate(SOME):
            chance, asks = random.Random(at), questions(rows)
            first = [told(asked(function, Book(rows), more)) for function, more in asks]
            book = Book(rows[::-1] + rows)
            for turn in range(3):
                order = list(range(len(asks)))
                chance.shuffle(order)
                for number in order[:len(order) if turn == 0 else 250]:
                    function, more = asks[number]
                    before = shown(more)
                    answer = asked(function, book, more)
                    self.assertEqual(told(answer), first[number], (rows, function, more))
                    self.assertEqual(shown(more), before)
                    if not isinstance(answer, LookError):
                        scramble(answer)
                self.assertEqual([book.clauses(), book.variables()], [sorted(set(rows)), names_in(rows)])
                self.assertTrue(book == Book(rows) and Book(rows) == book)

    def test_books_by_turns_with_one_another(self):
        asks = {at: questions(rows) for at, rows in enumerate(SOME)}
        chance, held = random.Random(7), {at: Book(rows) for at, rows in enumerate(SOME)}
        for _ in range(2500):
            at = chance.randrange(len(SOME))
            function, more = chance.choice(asks[at])
            one, other = asked(function, held[at], more), asked(function, Book(SOME[at]), more)
            self.assertEqual(told(one), told(other))
            if not isinstance(one, LookError):
                scramble(one)
            if chance.random() < 0.02:
                held[at] = Book(SOME[at])

    def test_refusals_are_told_alike_and_hold_the_very_argument(self):
        for rows in SOME:
            book = Book(rows)
            for function, more in questions(rows):
                answer = asked(function, book, more)
                if isinstance(answer, LookError):
                    again = asked(function, book, more)
                    self.assertIs(again.__class__, answer.__class__)
                    self.assertTrue(any(answer.value is held for held in [book, *more]), function)
                    self.assertIs(again.value, answer.value)

    def test_desks_and_scripts_between_other_questions(self):
        chance = random.Random(11)
        script = [("put", Book(TWO)), ("put", Book(HIDDEN)), ("choose", 1, "-d"), ("least_there", 1), ("force", 0, 2),
                  ("try", [("undo",), ("shown_spots", 2), ("alike_spots", 0)]), ("shown_spots", 2), ("add", 0, ("a",))]
        first = [shown(scripts.play(Desk(), script)), shown(scripts.end_of(script)), shown(scripts.shortened(script)),
                 scripts.script_text(script)]
        for _ in range(30):
            held = Desk()
            answers = [scripts.play(held, script), scripts.end_of(script), scripts.shortened(script),
                       scripts.script_text(script)]
            self.assertEqual([shown(answers[0]), shown(answers[1]), shown(answers[2]), answers[3]], first)
            for spot in held.spots():
                left = held.rest_there(spot)
                for function, more in chance.sample(questions(left.clauses()), 5):
                    self.assertEqual(told(asked(function, left, more)), told(asked(function, Book(left.clauses()), more)))
            for answer in answers:
                scramble(answer)
            self.assertEqual(shown(desk.replayed(Desk(), held.log())), shown(held))

    def test_numbers_agree_where_the_points_say_so(self):
        for rows in SOME:
            book = Book(rows)
            order = asked(looks.least_depth, book, ())
            if isinstance(order, LookError):
                self.assertTrue(fillings.many_fillings(book) > 0 and fillings.any_filling(book) is not None)
                self.assertIn(fillings.sure_depth(book) - depths.depth_of(book), [0, 1])
                continue
            self.assertEqual([depths.depth_of(book), trees.order_of(book, trees.least_tree(book)),
                              looks.depth_of_record(book, looks.record_of(book, order)), min(trees.leaves_by_order(book))],
                             [order] * 4)
            self.assertGreaterEqual(trees.fewest_leaves(book), 2 ** order)
            self.assertLessEqual(joins.least_one_sided(book), order)
            self.assertTrue(order > 2 or joins.least_one_sided(book) == order)
            self.assertEqual([kind for kind, _ in [opponents.paper_for(book, points) for points in range(1, order + 3)]],
                             ["family"] * order + ["tree"] * 2)
            if order > 0:
                family = opponents.greatest_points(book)
                self.assertEqual(opponents.points_of(book, family), order)
                self.assertEqual(opponents.played(book, family, trees.least_tree(book))[1], order)
                self.assertEqual(joins.points_of_broad(book, joins.least_one_sided(book) - 1)[()], joins.least_one_sided(book))
            self.assertEqual([fillings.goes_through(book, depth) for depth in range(5)],
                             [depth >= order for depth in range(5)])
            self.assertEqual(parts.depth_by_pieces(book), order)


if __name__ == "__main__":
    unittest.main()
