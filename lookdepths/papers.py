"""Texts of books, part-fillings, trees, families with points, derivations and records of looks, there and back."""

from lookdepths.books import known_book, need_book
from lookdepths.clauses import is_clause, is_literal, is_variable
from lookdepths.errors import (
    InvalidDerivation, InvalidFamily, InvalidLook, InvalidPoints, InvalidText, InvalidTree,
)
from lookdepths.orders import is_count, is_place

FIGURES = "0123456789"
INDENT = "  "


def clause_text(clause):
    """Return the text of a clause, or a part-filling."""
    return " ".join(clause) if clause else "()"


def clause_in(text):
    """Return the clause of which a text is the text, None if it is of none."""
    if text == "()":
        return ()
    clause = tuple(text.split(" "))
    return clause if is_clause(clause) else None


def count_in_text(text):
    """Return the count that stands in a text in figures, without noughts ahead, None if there is none."""
    if not text or not all([sign in FIGURES for sign in text]) or text[0] == "0" and text != "0":
        return None
    return int(text)


def indented(lines):
    """Return lines, each behind two blanks more."""
    return [INDENT + line for line in lines]


def joined_lines(lines):
    """Return the text of lines, put apart by line ends."""
    return "\n".join(lines)


def lines_in(text):
    """Return the list of the lines of a text, none for an empty one; InvalidText unless it is a string."""
    if not isinstance(text, str):
        raise InvalidText(text)
    return text.split("\n") if text else []


class Reader:
    """The lines of a text and the position of the next one; what can't be read raises InvalidText with the text."""

    def __init__(self, text):
        self.text = text
        self.lines = lines_in(text)
        self.at = 0

    def is_inside(self, indent):
        """Return whether there is a next line that stands at least as far in."""
        return self.at < len(self.lines) and self.lines[self.at].startswith(indent)

    def taken(self, indent):
        """Return the next line behind its indent, and go on behind it."""
        if not self.is_inside(indent):
            raise InvalidText(self.text)
        self.at += 1
        return self.lines[self.at - 1].removeprefix(indent)

    def wanted(self, found):
        """Return what was read, unless it is None."""
        if found is None:
            raise InvalidText(self.text)
        return found

    def ended(self, found):
        """Return what was read, if there is no line left."""
        return self.wanted(found if self.at == len(self.lines) else None)


def book_text(book):
    """Return a line for each clause of a book."""
    need_book(book)
    return joined_lines([clause_text(clause) for clause in book.clauses()])


def book_in(lines):
    """Return the book of lines, None if they are of none."""
    rows = [clause_in(line) for line in lines]
    if None in rows:
        return None
    book = known_book(rows)
    return book if book.clauses() == rows else None


def read_book(text):
    """Return the book of a text."""
    book = book_in(lines_in(text))
    if book is None:
        raise InvalidText(text)
    return book


def parts_text(parts):
    """Return a line for each part-filling of a list."""
    if not isinstance(parts, list) or not all([is_clause(part) for part in parts]):
        raise InvalidFamily(parts)
    return joined_lines([clause_text(part) for part in parts])


def read_parts(text):
    """Return the list of part-fillings of a text."""
    parts = [clause_in(line) for line in lines_in(text)]
    if None in parts:
        raise InvalidText(text)
    return parts


def tree_lines(value):
    """Return the list of the lines of any object that is a tree by its form, None if it is none."""
    if is_clause(value):
        return [clause_text(value)]
    if not is_place(value):
        return None
    high, low = tree_lines(value[1]), tree_lines(value[2])
    if high is None or low is None:
        return None
    return ["? " + value[0]] + indented(high + low)


def tree_text(tree):
    """Return the lines of a tree by its form."""
    lines = tree_lines(tree)
    if lines is None:
        raise InvalidTree(tree)
    return joined_lines(lines)


def read_tree(text):
    """Return the tree of a text."""
    reader = Reader(text)
    return reader.ended(next_tree(reader, ""))


def next_tree(reader, indent):
    """Return the tree of the next lines at an indent."""
    line = reader.taken(indent)
    if not line.startswith("? "):
        return reader.wanted(clause_in(line))
    name = line.removeprefix("? ")
    high = next_tree(reader, indent + INDENT)
    low = next_tree(reader, indent + INDENT)
    return reader.wanted((name, high, low) if is_variable(name) else None)


def are_points_by_form(value):
    """Return whether any object is a dictionary from part-fillings to counts from 1 on."""
    if not isinstance(value, dict):
        return False
    return all([is_clause(part) and is_count(value[part]) and value[part] > 0 for part in value])


def points_text(points):
    """Return a line for each part-filling of a family with points by its form, the shorter ones first."""
    if not are_points_by_form(points):
        raise InvalidPoints(points)
    parts = sorted(points, key=lambda part: (len(part), part))
    return joined_lines([f"{clause_text(part)}: {points[part]}" for part in parts])


def read_points(text):
    """Return the family with points of a text."""
    found = {}
    for line in lines_in(text):
        part, _, count = line.partition(": ")
        found[clause_in(part)] = count_in_text(count)
    if not are_points_by_form(found) or points_text(found) != text:
        raise InvalidText(text)
    return {part: found[part] for part in sorted(found)}


def is_step(value):
    """Return whether any object is a tuple of two counts and a variable."""
    if not isinstance(value, tuple) or len(value) != 3:
        return False
    return is_count(value[0]) and is_count(value[1]) and is_variable(value[2])


def derivation_text(lines):
    """Return a line for each line of a derivation by its form."""
    if not isinstance(lines, list) or not all([is_clause(line) or is_step(line) for line in lines]):
        raise InvalidDerivation(lines)
    return joined_lines([clause_text(line) if is_clause(line) else f"{line[0]} {line[1]} {line[2]}" for line in lines])


def read_derivation(text):
    """Return the derivation of a text."""
    found = [derivation_line_in(line) for line in lines_in(text)]
    if None in found:
        raise InvalidText(text)
    return found


def derivation_line_in(text):
    """Return the line of a derivation of which a text is the text, None if it is of none."""
    words = text.split(" ")
    if len(words) == 3:
        step = (count_in_text(words[0]), count_in_text(words[1]), words[2])
        if is_step(step):
            return step
    return clause_in(text)


def look_lines(value):
    """Return the list of the lines of any object that is a record of a look by its form, None if it is none."""
    if not isinstance(value, list) or not value or not is_clause(value[-1]):
        return None
    found = []
    for entry in value[:-1]:
        if not isinstance(entry, tuple) or len(entry) != 2 or not is_literal(entry[0]):
            return None
        within = look_lines(entry[1])
        if within is None:
            return None
        found += [entry[0]] + indented(within)
    return found + ["! " + clause_text(value[-1])]


def look_text(look):
    """Return the lines of a record of a look by its form."""
    lines = look_lines(look)
    if lines is None:
        raise InvalidLook(look)
    return joined_lines(lines)


def read_look(text):
    """Return the record of a look of a text."""
    reader = Reader(text)
    return reader.ended(next_look(reader, ""))


def next_look(reader, indent):
    """Return the record of the next lines at an indent."""
    found = []
    line = reader.taken(indent)
    while not line.startswith("! "):
        literal = reader.wanted(line if is_literal(line) else None)
        found.append((literal, next_look(reader, indent + INDENT)))
        line = reader.taken(indent)
    return found + [reader.wanted(clause_in(line.removeprefix("! ")))]
