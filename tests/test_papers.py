"""Points 90 to 93: texts of books, part-fillings, trees, families with points, derivations and records of looks."""

import random
import unittest

from lookdepths.books import Book
from lookdepths.errors import (
    InvalidBook, InvalidDerivation, InvalidFamily, InvalidLook, InvalidPoints, InvalidText, InvalidTree,
)
from lookdepths.joins import ending
from lookdepths.looks import record_of
from lookdepths.opponents import greatest_points
from lookdepths.papers import (
    book_text, derivation_text, look_text, parts_text, points_text, read_book, read_derivation, read_look, read_parts,
    read_points, read_tree, tree_text,
)
from lookdepths.trees import least_tree
from tests.helper import (
    FailsCase, any_objects, chain, copies, every_book, every_plan, every_row, is_name, is_row, is_rows,
    is_signed_name, names_in, pseudo_books, ring, shown, signs,
)

TWO = [("a", "b"), ("-b", "a"), ("-a", "b"), ("-a", "-b")]
BARRED = [TWO, signs(["a"]), signs(["a", "b", "c"]), ring(["a", "b", "c"]), chain(["a", "b", "c"]), copies(1, 3), [()],
          [(), ("a",)], signs(list("abcd")), chain(["end", "put", "a"])]


def is_number(value):
    return isinstance(value, int) and not isinstance(value, bool) and value >= 0


def is_plan_form(value):
    if isinstance(value, tuple) and len(value) == 3 and is_name(value[0]) and isinstance(value[1], tuple):
        return is_plan_form(value[1]) and is_plan_form(value[2])
    return is_row(value)


def is_points_form(value):
    return isinstance(value, dict) and all(is_row(part) and is_number(value[part]) and value[part] > 0 for part in value)


def is_lines_form(value):
    return isinstance(value, list) and all(is_row(line) or isinstance(line, tuple) and len(line) == 3 and is_number(line[0])
                                           and is_number(line[1]) and is_name(line[2]) for line in value)


def is_look_form(value):
    if not isinstance(value, list) or not value or not is_row(value[-1]):
        return False
    return all(isinstance(entry, tuple) and len(entry) == 2 and is_signed_name(entry[0]) and is_look_form(entry[1])
               for entry in value[:-1])


def joined(literals):
    return " ".join(literals) or "()"


def plan_lines(plan):
    if all(isinstance(entry, str) for entry in plan):
        return [joined(plan)]
    return ["? " + plan[0], *["  " + line for side in plan[1:] for line in plan_lines(side)]]


def look_lines(look):
    found = []
    for literal, within in look[:-1]:
        found += [literal, *["  " + line for line in look_lines(within)]]
    return [*found, "! " + joined(look[-1])]


def row_lines(rows):
    return [joined(entry) for entry in rows]


def points_lines(points):
    return [joined(part) + ": " + str(points[part]) for part in sorted(points, key=lambda part: (len(part), part))]


def derivation_lines(lines):
    return [joined(line) if is_row(line) else " ".join(map(str, line)) for line in lines]


def ascending(points):
    return {part: points[part] for part in sorted(points)}


# Each writer with its reader, its error, what tells whether it is right, the lines as the points say them, and what
# comes back.
PAPERS = [
    (parts_text, read_parts, InvalidFamily, is_rows, row_lines, list),
    (tree_text, read_tree, InvalidTree, is_plan_form, plan_lines, lambda tree: tree),
    (points_text, read_points, InvalidPoints, is_points_form, points_lines, ascending),
    (derivation_text, read_derivation, InvalidDerivation, is_lines_form, derivation_lines, list),
    (look_text, read_look, InvalidLook, is_look_form, look_lines, lambda look: look),
]
READERS = [read_book] + [paper[1] for paper in PAPERS]


def any_plan(chance, deep):
    if deep == 0 or chance.random() < 0.3:
        return chance.choice(every_row(["a", "b", "end"]))
    return chance.choice(["a", "b", "put", "abcdefgh"]), any_plan(chance, deep - 1), any_plan(chance, deep - 1)


def any_look(chance, deep):
    many = chance.randint(0, 3) if deep else 0
    tried = [(chance.choice(["a", "-a", "end", "-put"]), any_look(chance, deep - 1)) for _ in range(many)]
    return tried + [chance.choice(every_row(["a", "b"]))]


def right_papers():
    """Many papers of each kind, in the order of PAPERS."""
    chance = random.Random(5)
    rows = every_row(["a", "b", "end"])
    families = [[], [()], [("b",), ("a",), ("b",)], rows, [(), ()]] + [chance.sample(rows, 4) for _ in range(30)]
    plans = [least_tree(Book(some)) for some in BARRED] + [any_plan(chance, 4) for _ in range(60)] + every_plan(TWO)
    points = [{}, {(): 1}, {("b",): 10 ** 29, ("a",): 3}] + [greatest_points(Book(some)) for some in BARRED if () not in some]
    points += [{part: chance.randint(1, 12) for part in chance.sample(rows, 6)} for _ in range(30)]
    lines = [[], [()], [(0, 0, "a")], [(10 ** 29, 0, "abcdefgh"), ("a", "b", "end")]] + [
        ending(Book(some), 8) for some in BARRED]
    lines += [[chance.choice([*rows, (chance.randint(0, 30), 5, "b")]) for _ in range(5)] for _ in range(30)]
    looks = [record_of(Book(some), 8) for some in BARRED] + [any_look(chance, 3) for _ in range(60)]
    return [families, plans, points, lines, looks]


class PapersTest(FailsCase):
    def test_books_there_and_back(self):
        for rows in every_book(["a", "b"], 9) + pseudo_books(111, 20, ["a", "b", "end"], 6, 3) + [[], [()], [(), ("put",)]]:
            text = book_text(Book(rows))
            self.assertEqual(text, "\n".join(row_lines(sorted(rows))))
            self.assertEqual(read_book(text), Book(rows))
            self.assertIsInstance(read_book(text), Book)

    def test_papers_there_and_back(self):
        for (writer, reader, _, is_right, lines, back), papers in zip(PAPERS, right_papers()):
            for paper in papers:
                self.assertTrue(is_right(paper))
                before = shown(paper)
                text = writer(paper)
                self.assertEqual(text, "\n".join(lines(paper)))
                self.assertEqual(shown(reader(text)), shown(back(paper)))
                self.assertEqual(shown(paper), before)

    def test_every_other_object_is_wrong(self):
        for value in any_objects():
            if not isinstance(value, Book):
                self.fails(InvalidBook, value, book_text, value)
            for writer, reader, error, is_right, lines, back in PAPERS:
                if is_right(value):
                    self.assertEqual(writer(value), "\n".join(lines(value)))
                    self.assertEqual(shown(reader(writer(value))), shown(back(value)))
                else:
                    self.fails(error, value, writer, value)
            for reader in READERS:
                if not isinstance(value, str):
                    self.fails(InvalidText, value, reader, value)

    def test_wrong_papers(self):
        for parts in [None, (), {}, "a", [None], ["a"], [["a"]], [("b", "a")], [("a", "-a")], [("a",), ()] + [()] + [[]]]:
            self.fails(InvalidFamily, parts, parts_text, parts)
        for tree in [None, [], "a", ("b", "a"), ("a", (), ()) + ((),), ("a", ()), ("-a", (), ()), ("A", (), ()), ("a", [], ()),
                     ("a", (), ("b", "a")), ("a", (), ("b", (), None)), (("a",), (), ()), ["a", (), ()], ("a", "b", ())]:
            self.fails(InvalidTree, tree, tree_text, tree)
        for points in [None, [], {(): 0}, {(): True}, {(): -1}, {(): "1"}, {"": 1}, {("b", "a"): 1}, {(): 1, None: 1}, {1: 1}]:
            self.fails(InvalidPoints, points, points_text, points)
        for lines in [None, (), {}, [None], [("b", "a")], [(0, 0)], [(0, 0, "A")], [(0, 0, "-a")], [(True, 0, "a")],
                      [(0, -1, "a")], [(0, 0, "a", 0)], [[0, 0, "a"]], [("0", "0", "a")], [(0, "a", 0)]]:
            self.fails(InvalidDerivation, lines, derivation_text, lines)
        for look in [None, (), [], [None], ["a"], [("b", "a")], [("a", [()])], [("a", ()), ()], [("a",), [()]], [["a", [()]], ()],
                     [("A", [()]), ()], [("a", []), ()], [("a", [()], ()), ()], [(("a",), [()]), ()], [("a", [("b", [()])]), ()]]:
            self.fails(InvalidLook, look, look_text, look)

    def test_texts_bent_in_one_place(self):
        signs_in = ["", " ", "\n", "  ", "0", "1", "a", "b", "-", "?", "!", ":", "(", ")", "A", "\t", "? ", "! ", ": ", "\n  "]
        chance = random.Random(6)
        for (writer, reader, _, is_right, _, back), papers in zip(PAPERS, right_papers()):
            right = wrong = 0
            for paper in [paper for paper in papers if len(writer(paper)) < 60][:14]:
                text = writer(paper)
                places = [(at, skip, sign) for at in range(len(text) + 1) for skip in [0, 1] for sign in signs_in]
                bent = [text[:at] + sign + text[at + skip:] for at, skip, sign in chance.sample(places, min(400, len(places)))]
                lines = text.split("\n")
                bent += ["\n".join(lines[:at] + lines[at + 1:]) for at in range(len(lines))]
                bent += ["\n".join(lines[:at] + lines[at:at + 1] + lines[at:]) for at in range(len(lines))]
                bent += ["\n".join(lines[::-1]), text + "\n", "\n" + text]
                for value in bent:
                    try:
                        read = reader(value)
                    except InvalidText as error:
                        self.assertIs(error.value, value)
                        wrong += 1
                        continue
                    self.assertTrue(is_right(read), value)
                    self.assertEqual([writer(read), shown(back(read))], [value, shown(read)])
                    right += 1
            self.assertTrue(right > 10 and wrong > 100, writer)

    def test_bent_books(self):
        right = 0
        for text in ["()\n-a b\na", "-a -b\n-a b\n-b a\na b", "", "()"]:
            for at in range(len(text) + 1):
                for skip in [0, 1]:
                    for sign in ["", " ", "\n", "a", "-", "b", "()", "(", "0"]:
                        value = text[:at] + sign + text[at + skip:]
                        rows = [() if line == "()" else tuple(line.split(" ")) for line in value.split("\n")] if value else []
                        if is_rows(rows) and rows == sorted(set(rows)):
                            self.assertEqual(read_book(value), Book(rows))
                            right += 1
                        else:
                            self.fails(InvalidText, value, read_book, value)
        self.assertGreater(right, 20)

    def test_texts_that_are_none(self):
        wrong = {read_book: ["\n", "()\n()", "a\n-a", "a\n", "b a", "a  b", " a", "a ", "A", "( )", "a b c a", "a\n\nb", "()\n"],
                 read_parts: ["\n", "b a", "a  b", "a\n", "\na", "() a", "a ()", "-a a", "a:"],
                 read_tree: ["", "\n", "?", "? ", "? a", "? a\n  a", "? a\n  a\n  b\n  c", "? a\n  a\n b", "? a\n a\n b",
                             "?  a\n  a\n  b", "? -a\n  a\n  b", "? A\n  a\n  b", "? a b\n  a\n  b", "a\nb", "? a\na\nb",
                             "? a\n  a\n    b", "? a\n  a\n  b\n", "?a\n  a\n  b", "b a", "? a\n  ? b\n    a\n    b"],
                 read_points: ["\n", "()", "(): 0", "(): -1", "():1", "(): 01", "():  1", "(): 1 ", "(): a", "a: 1\n(): 1",
                               "(): 1\n(): 1", "b: 1\na: 1", "a b: 1\na: 1", ": 1", "b a: 1", "(): 1\n", "(): 1: 1", "(): +1",
                               "(): 1_0", "a : 1", "(): True"],
                 read_derivation: ["\n", "0", "0 0", "0 0 A", "0 0 -a", "00 0 a", "0 -1 a", "0 0 a 0", "0  0 a", "a 0 0", "0 a 0",
                                   "b a", "a\n", "0 0 a ", "0 0 ()", "+1 0 a"],
                 read_look: ["", "\n", "a", "!", "! ", "!()", "a\n! ()", "a\n  ()\n! ()", "a\n  ! ()", "a\n! ()\n! ()", "! ()\n",
                             "! ()\n! ()", "A\n  ! ()\n! ()", "a\n ! ()\n! ()", "a\n    ! ()\n! ()", "!  a", "! b a",
                             "a b\n  ! ()\n! ()", "()\n  ! ()\n! ()", "  ! ()"]}
        for reader, texts in wrong.items():
            for text in texts:
                self.fails(InvalidText, text, reader, text)

    def test_edges(self):
        self.assertEqual([book_text(Book([])), parts_text([]), points_text({}), derivation_text([]), tree_text(()),
                          look_text([()]), parts_text([()])], ["", "", "", "", "()", "! ()", "()"])
        self.assertEqual([read_book("").clauses(), read_parts(""), read_points(""), read_derivation(""), read_tree("()"),
                          read_look("! ()")], [[], [], {}, [], (), [()]])
        self.assertEqual(points_text({("a", "b"): 1, ("c",): 2, ("-c",): 3, (): 4}), "(): 4\n-c: 3\nc: 2\na b: 1")
        self.assertEqual(list(read_points("(): 4\n-c: 3\nc: 2\na b: 1")), [(), ("-c",), ("a", "b"), ("c",)])
        self.assertEqual(derivation_text([("a", "b", "c"), (10, 2, "a")]), "a b c\n10 2 a")
        self.assertEqual(read_derivation("a b c\n10 2 a"), [("a", "b", "c"), (10, 2, "a")])

    def test_deep_papers(self):
        tree, look = (), [()]
        for _ in range(60):
            tree, look = ("a", tree, ("b",)), [("-a", look), ("b",)]
        self.assertEqual([read_tree(tree_text(tree)) == tree, read_look(look_text(look)) == look], [True, True])
        for reader in [read_tree, read_look]:
            text = "\n".join("  " * at + "? a" for at in range(250))
            self.fails(InvalidText, text, reader, text)

    def test_what_was_read_may_be_changed(self):
        for reader, text in [(read_parts, "a"), (read_points, "(): 1"), (read_derivation, "a"), (read_look, "! a")]:
            before = shown(reader(text))
            reader(text).clear()
            self.assertEqual(shown(reader(text)), before)

    def test_names_stand_in_order(self):
        for rows in BARRED:
            self.assertEqual(names_in(rows), read_book(book_text(Book(rows))).variables())


if __name__ == "__main__":
    unittest.main()
