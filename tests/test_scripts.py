"""Points 87 to 89: scripts played on desks, their texts there and back, their ends, and shortened ones."""

import random
import unittest

from lookdepths.books import Book
from lookdepths.desk import Desk
from lookdepths.errors import InvalidDesk, InvalidScript, InvalidText, LookError
from lookdepths.scripts import end_of, play, read_script, script_text, shortened
from tests.helper import FailsCase, any_objects, is_row, is_signed_name, scramble, shown

BOOK = Book([("a", "b"), ("-b", "a")])
TWO = Book([("a", "b"), ("-b", "a"), ("-a", "b"), ("-a", "-b")])
BOOKS = [BOOK, TWO, Book([]), Book([()]), Book([("end",), ("-end", "put")]), Book([("x", "y"), ("-x", "z")]),
         Book([("c",), ("-c", "d"), ("d", "e")])]
KINDS = {"put": ["book"], "take": ["count"], "choose": ["count", "literal"], "back": ["count", "literal"],
         "force": ["count", "count"], "add": ["count", "clause"], "drop": ["count", "clause"], "lay": ["count", "count"],
         "set_there": ["count"], "is_shown": ["count", "count"], "least_there": ["count"], "alike_spots": ["count"],
         "shown_spots": ["count"], "undo": [], "redo": [], "try": ["script"]}
DAY = [("put", BOOK), ("force", 0, 1), ("least_there", 0), ("try", [("add", 0, ("-a",)), ("is_shown", 0, 1)]),
       ("force", 0, 2), ("choose", 0, "c"), ("choose", 0, "b"), ("undo",)]


def is_of(kind, value):
    if kind == "book":
        return isinstance(value, Book)
    if kind == "count":
        return isinstance(value, int) and not isinstance(value, bool) and value >= 0
    if kind == "script":
        return is_plain_script(value)
    return is_signed_name(value) if kind == "literal" else is_row(value)


def is_plain_script(value):
    """Whether any object is a script, as point 87 says it."""
    if not isinstance(value, list) or not all(isinstance(entry, tuple) and entry for entry in value):
        return False
    for word, *things in value:
        if not isinstance(word, str) or word not in KINDS or len(things) != len(KINDS[word]):
            return False
        if not all(is_of(kind, thing) for kind, thing in zip(KINDS[word], things)):
            return False
    return True


def said_plainly(desk, script):
    """What is said of a script, as point 87 says it."""
    found = []
    for word, *things in script:
        if word == "try":
            with desk.trial():
                found.append(("tried", said_plainly(desk, things[0])))
            continue
        try:
            told = getattr(desk, word)(*things)
        except LookError as error:
            found.append(("refused", type(error).__name__))
            continue
        if word == "put":
            found.append(("put", told))
        elif word == "least_there" or told is not None:
            found.append(("told", told))
        else:
            found.append(("done",))
    return found


def lines_plainly(script):
    """The lines of a script, as point 88 says them."""
    found = []
    for word, *things in script:
        if word == "put":
            found += [word, *["  " + (" ".join(clause) or "()") for clause in things[0].clauses()], "end"]
        elif word == "try":
            found += [word, *["  " + line for line in lines_plainly(things[0])], "end"]
        else:
            texts = [" ".join(thing) or "()" if isinstance(thing, tuple) else str(thing) for thing in things]
            found.append(" ".join([word, *texts]))
    return found


def any_script(chance, many, deep=0):
    """A script of at most so many commands, mostly such as can be carried out."""
    things = {"count": [0, 0, 0, 1, 1, 2, 9], "literal": ["a", "b", "-a", "-b", "c", "-d", "x", "zz"], "book": BOOKS,
              "clause": [("a", "b"), ("-b", "a"), ("a",), ("-a",), (), ("-x", "z"), ("new",), ("a", "b", "c")]}
    script = []
    for _ in range(many):
        word = chance.choice([*KINDS, "put", "put", "choose", "force", "undo", "redo"]) if script else "put"
        if word == "try":
            if deep < 4:
                script.append((word, any_script(chance, chance.randint(0, 3), deep + 1)))
            continue
        script.append((word, *[chance.choice(things[kind]) for kind in KINDS[word]]))
    return script


class PlayTest(FailsCase):
    def test_played_scripts(self):
        words = set()
        for seed in range(200):
            script = any_script(random.Random(seed), 12)
            desk, other = Desk(), Desk()
            before = shown(script)
            said = play(desk, script)
            self.assertEqual(shown(said), shown(said_plainly(other, script)))
            self.assertEqual(shown(script), before)
            self.assertEqual([desk.spots(), shown(desk.log())], [other.spots(), shown(other.log())])
            for spot in desk.spots():
                self.assertEqual(desk.set_there(spot), other.set_there(spot))
                self.assertEqual(desk.book_there(spot), other.book_there(spot))
            words |= {entry[1] for entry in said if entry[0] == "refused"} | {entry[0] for entry in said}
        self.assertTrue({"put", "told", "tried", "done", "refused", "Refused", "InvalidSpot", "InvalidLiteral", "InvalidDepth",
                         "NothingToUndo", "NothingToRedo"} <= words)

    def test_on_a_desk_with_something_on_it(self):
        desk = Desk()
        desk.put(TWO)
        desk.choose(0, "a")
        desk.undo()
        self.assertEqual(play(desk, [("redo",), ("set_there", 0), ("try", [("undo",), ("undo",), ("undo",)]), ("put", BOOK),
                                     ("shown_spots", 1), ("alike_spots", 0), ("least_there", 1), ("shown_spots", 9)]),
                         [("done",), ("told", ("a",)), ("tried", [("done",), ("done",), ("refused", "NothingToUndo")]),
                          ("put", 1), ("told", [0]), ("told", []), ("told", None), ("refused", "InvalidDepth")])
        self.assertEqual(desk.log(), [("put", TWO), ("choose", 0, "a"), ("put", BOOK)])

    def test_tries_within_one_another(self):
        script = [("put", BOOK), ("try", [("choose", 0, "a"), ("try", [("choose", 0, "b"), ("try", [("take", 0)])]),
                                          ("set_there", 0), ("try", [])]), ("set_there", 0)]
        self.assertEqual(play(Desk(), script), [
            ("put", 0), ("tried", [("done",), ("tried", [("done",), ("tried", [("done",)])]), ("told", ("a",)),
                                   ("tried", [])]), ("told", ())])

    def test_wrong_arguments(self):
        for value in [value for value in any_objects() if not is_plain_script(value)]:
            for function, arguments in [(play, [Desk()]), (script_text, []), (end_of, []), (shortened, [])]:
                self.fails(InvalidScript, value, function, *arguments, value)
        for value in [value for value in any_objects() if not isinstance(value, Desk)]:
            self.fails(InvalidDesk, value, play, value, None)

    def test_a_wrong_script_changes_nothing(self):
        desk = Desk()
        wrong = [("put",), ("put", [("a",)]), ("put", BOOK, 1), ("take", -1), ("take", True), ("take", "0"), ("take",),
                 ("choose", 0, "A"), ("choose", 0, ("a",)), ("choose", "a", 0), ("back", 0), ("force", 0, None), ("add", 0, ["a"]),
                 ("add", 0, ("b", "a")), ("add", 0, "a"), ("drop", 0), ("lay", 0), ("set_there",), ("is_shown", 0),
                 ("least_there", 0, 1), ("alike_spots", -1), ("shown_spots", False), ("undo", 0), ("redo", 0), ("try",),
                 ("try", ()), ("try", [], []), ("try", [("undo", 0)]), ("try", [()]), ("log",), ("spots",), ("rest_there", 0),
                 ("Put", BOOK), (None,), (0,), ([],), (), ["undo"], "undo", None]
        for command in wrong:
            self.assertFalse(is_plain_script([command]))
            script = [("put", BOOK), command]
            self.fails(InvalidScript, script, play, desk, script)
            self.fails(InvalidScript, script, end_of, script)
        self.assertEqual([desk.spots(), desk.log()], [[], []])

    def test_what_was_said_may_be_changed(self):
        script = [("put", BOOK), ("force", 0, 2), ("shown_spots", 0), ("try", [("undo",)])]
        desk = Desk()
        said = play(desk, script)
        told, before = shown(said), shown(script)
        scramble(said)
        self.assertEqual([shown(play(Desk(), script)), shown(script), desk.set_there(0)], [told, before, ("a",)])
        script.clear()
        self.assertEqual(desk.log(), [("put", BOOK), ("force", 0, 2)])


class TextTest(FailsCase):
    def test_there_and_back(self):
        for seed in range(200):
            script = any_script(random.Random(1000 + seed), 12)
            text = script_text(script)
            self.assertEqual(text, "\n".join(lines_plainly(script)))
            self.assertEqual(shown(read_script(text)), shown(script))

    def test_edges(self):
        for script, text in [([], ""), ([("put", Book([]))], "put\nend"), ([("put", Book([()]))], "put\n  ()\nend"),
                             ([("try", [])], "try\nend"), ([("try", [("try", [])])], "try\n  try\n  end\nend"),
                             ([("put", Book([("end",)]))], "put\n  end\nend"), ([("take", 0)], "take 0"),
                             ([("take", 10 ** 29)], "take 1" + "0" * 29), ([("add", 0, ())], "add 0 ()"),
                             ([("undo",), ("redo",)], "undo\nredo"), ([("add", 3, ("-a", "b"))], "add 3 -a b"),
                             ([("try", [("put", Book([("a",)])), ("undo",)])], "try\n  put\n    a\n  end\n  undo\nend")]:
            self.assertEqual(script_text(script), text)
            self.assertEqual(shown(read_script(text)), shown(script))

    def test_texts_bent_in_one_place(self):
        right = wrong = 0
        script = [("put", Book([("-a", "b"), ("a",)])), ("add", 12, ("-a", "b")), ("drop", 0, ()), ("choose", 0, "-a"),
                  ("try", [("put", Book([])), ("lay", 0, 1), ("try", [("undo",)])]), ("shown_spots", 1)]
        text = script_text(script)
        bent = {text[:at] + sign + text[at + skip:] for at in range(len(text) + 1) for skip in [0, 1]
                for sign in ["", " ", "\n", "0", "1", "a", "-", "b", "e", "(", "  ", "\t", "A", "\nundo", "\nend"]}
        lines = text.split("\n")
        for at, line in enumerate(lines):
            for more in [[], [line, line], [line + " "], [" " + line], ["  " + line], [line.strip()], ["end"], ["", line]]:
                bent.add("\n".join(lines[:at] + more + lines[at + 1:]))
        for value in sorted(bent):
            try:
                read = read_script(value)
            except InvalidText as error:
                self.assertIs(error.value, value)
                wrong += 1
                continue
            self.assertTrue(is_plain_script(read))
            self.assertEqual(script_text(read), value)
            right += 1
        self.assertTrue(right > 20 and wrong > 1000)

    def test_texts_that_are_none(self):
        for text in ["\n", " ", "undo\n", "\nundo", "undo ", " undo", "undo undo", "put", "put\n", "put\n end", "put\n  b a\nend",
                     "put\n  a\n  a\nend", "put\n  b\n  a\nend", "put\n  a", "put\n\nend", "put\n    a\nend", "put a\nend", "end",
                     "try", "try\n  undo", "try\nundo\nend", "try\n  undo\n  end", "try undo\nend", "take", "take -1", "take 01",
                     "take 00", "take 0 0", "take a", "take True", "take  0", "take +1", "take 1_0", "choose 0", "choose 0 A",
                     "choose 0 --a", "choose a 0", "choose 0 a b", "choose 0 ()", "force 0", "force 0 1 2", "add 0", "add 0 b a",
                     "add 0 ", "add 0 a a", "add 0 -a a", "add 0 (a)", "lay 0", "Undo", "UNDO", "log", "spots", "rest_there 0",
                     "try\n  put\n  end", "try\n  put\n  end\n", "put\nend\nend", "put\n  ()\n  ()\nend"]:
            self.fails(InvalidText, text, read_script, text)
        for value in any_objects():
            if isinstance(value, str) and value in ["", "undo", "try\nend", "put\nend", "take 0"]:
                continue
            self.fails(InvalidText, value, read_script, value)

    def test_deep_texts(self):
        script = []
        for _ in range(30):
            script = [("try", script)]
        self.assertEqual(read_script(script_text(script)), script)
        text = "\n".join(["  " * at + "try" for at in range(124)] + ["  " * at + "end" for at in reversed(range(124))])
        self.assertEqual(script_text(read_script(text)), text)


class EndTest(FailsCase):
    def end_plainly(self, script):
        desk = Desk()
        said_plainly(desk, script)
        return {spot: (desk.book_there(spot).clauses(), desk.set_there(spot)) for spot in desk.spots()}

    def test_ends_and_shortened_scripts(self):
        shorter = 0
        for seed in range(200):
            script = any_script(random.Random(2000 + seed), 10)
            before, end = shown(script), self.end_plainly(script)
            self.assertEqual(shown(end_of(script)), shown(end))
            left = list(script)
            for command in range(len(script) - 1, -1, -1):
                less = left[:command] + left[command + 1:]
                left = less if self.end_plainly(less) == end else left
            told = shortened(script)
            self.assertEqual(shown(told), shown(left))
            self.assertEqual([shown(end_of(told)), shown(script)], [shown(end), before])
            shorter += len(told) < len(script)
        self.assertGreater(shorter, 100)

    def test_edges(self):
        self.assertEqual([end_of([]), shortened([])], [{}, []])
        self.assertEqual(end_of([("take", 0), ("undo",)]), {})
        self.assertEqual(end_of([("put", BOOK), ("put", TWO), ("take", 0), ("choose", 1, "b")]), {1: (TWO.clauses(), ("b",))})
        self.assertEqual(shortened([("put", BOOK), ("try", [("choose", 0, "a")]), ("set_there", 0), ("take", 5)]), [("put", BOOK)])
        # From the last one on: without the first undo the redo is refused, and all later ones come to the same.
        self.assertEqual(shortened([("put", BOOK), ("choose", 0, "a"), ("undo",), ("redo",), ("undo",)]),
                         [("put", BOOK), ("choose", 0, "a"), ("redo",), ("undo",)])

    def test_a_shortened_script_has_lists_of_its_own(self):
        within = [("choose", 0, "b")]
        script = [("put", BOOK), ("choose", 0, "a"), ("try", within), ("back", 0, "a")]
        for told in [shortened(script), shortened([("put", BOOK), ("try", within)])]:
            scramble(told)
        self.assertEqual(within, [("choose", 0, "b")])
        self.assertEqual(len(script), 4)
        end = end_of([("put", BOOK)])
        scramble(end)
        self.assertEqual(end_of([("put", BOOK)]), {0: (BOOK.clauses(), ())})


if __name__ == "__main__":
    unittest.main()
