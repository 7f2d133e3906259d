"""Scripts for desks: what is said when they are played, their texts, their ends, and shorter ones."""

from lookdepths.books import Book
from lookdepths.clauses import is_clause, is_literal
from lookdepths.desk import Desk, called, need_desk
from lookdepths.errors import InvalidScript, LookError
from lookdepths.orders import is_count
from lookdepths.papers import (
    INDENT, Reader, book_in, clause_in, clause_text, count_in_text, indented, joined_lines,
)

# The kinds of the things behind each word.
FORMS = {
    "put": ("book",), "take": ("count",), "choose": ("count", "literal"), "back": ("count", "literal"),
    "force": ("count", "count"), "add": ("count", "clause"), "drop": ("count", "clause"), "lay": ("count", "count"),
    "set_there": ("count",), "is_shown": ("count", "count"), "least_there": ("count",), "alike_spots": ("count",),
    "shown_spots": ("count",), "undo": (), "redo": (), "try": ("script",),
}


def is_script(value):
    """Return whether any object is a script."""
    return isinstance(value, list) and all([is_command(entry) for entry in value])


def is_command(value):
    """Return whether any object is a command of a script."""
    if not isinstance(value, tuple) or not value or not isinstance(value[0], str) or value[0] not in FORMS:
        return False
    kinds, things = FORMS[value[0]], value[1:]
    return len(kinds) == len(things) and all([is_of_kind(kind, thing) for kind, thing in zip(kinds, things)])


def is_of_kind(kind, value):
    """Return whether any object is a thing of a kind."""
    match kind:
        case "book":
            return isinstance(value, Book)
        case "count":
            return is_count(value)
        case "literal":
            return is_literal(value)
        case "clause":
            return is_clause(value)
        case _:
            return is_script(value)


def need_script(script):
    """Raise InvalidScript unless it is a script."""
    if not is_script(script):
        raise InvalidScript(script)


def play(desk, script):
    """Carry a script out on a desk and return what is said."""
    need_desk(desk)
    need_script(script)
    return all_said(desk, script)


def all_said(desk, script):
    """Carry out what surely is a script on a desk and return what is said."""
    return [said_of(desk, command) for command in script]


def said_of(desk, command):
    """Carry out a command on a desk and return what is said."""
    if command[0] == "try":
        with desk.trial() as held:
            return ("tried", all_said(held, command[1]))
    try:
        told = called(desk, command)
    except LookError as wrong:
        return ("refused", wrong.word)
    if command[0] == "put":
        return ("put", told)
    return ("done",) if told is None and command[0] != "least_there" else ("told", told)


def script_text(script):
    """Return the text of a script."""
    need_script(script)
    return joined_lines(script_lines(script))


def script_lines(script):
    """Return the list of the lines of a script."""
    return [line for command in script for line in command_lines(command)]


def command_lines(command):
    """Return the list of the lines of a command."""
    word = command[0]
    if word == "put":
        return [word] + indented([clause_text(clause) for clause in command[1].clauses()]) + ["end"]
    if word == "try":
        return [word] + indented(script_lines(command[1])) + ["end"]
    return [" ".join([word] + [thing_text(thing) for thing in command[1:]])]


def thing_text(thing):
    """Return the text of a count, a literal or a clause."""
    if isinstance(thing, tuple):
        return clause_text(thing)
    return str(thing)


def read_script(text):
    """Return the script of a text."""
    reader = Reader(text)
    return reader.ended(next_script(reader, ""))


def next_script(reader, indent):
    """Return the script of the next lines at an indent, up to a line `end` that stands less far in."""
    script = []
    while reader.is_inside(indent):
        script.append(next_command(reader, indent))
    return script


def next_command(reader, indent):
    """Return the command of the next lines at an indent."""
    line = reader.taken(indent)
    if line == "put":
        thing = book_in(rows_inside(reader, indent + INDENT))
    elif line == "try":
        thing = next_script(reader, indent + INDENT)
    else:
        return reader.wanted(command_in(line))
    return reader.wanted((line, thing) if thing is not None and reader.taken(indent) == "end" else None)


def rows_inside(reader, indent):
    """Return the list of the next lines that stand at least as far in, behind their indent."""
    rows = []
    while reader.is_inside(indent):
        rows.append(reader.taken(indent))
    return rows


def command_in(text):
    """Return the command of which a line is the text, None if it is of none."""
    word, _, behind = text.partition(" ")
    first, _, second = behind.partition(" ")
    things = [thing_in(kind, part) for kind, part in zip(FORMS.get(word, ()), (first, second))]
    command = (word,) + tuple(things)
    return command if is_command(command) and command_lines(command) == [text] else None


def thing_in(kind, text):
    """Return the thing of a kind of which a text is the text, None if it is of none."""
    match kind:
        case "count":
            return count_in_text(text)
        case "literal":
            return text
        case "clause":
            return clause_in(text)
        case _:
            return None


def end_of(script):
    """Play a script on a new desk and return the clauses and what is set at each spot in the end."""
    need_script(script)
    return end_by(script)


def end_by(script):
    """Return what what surely is a script leaves on a new desk."""
    desk = Desk()
    all_said(desk, script)
    return {spot: (desk.book_there(spot).clauses(), desk.set_there(spot)) for spot in desk.spots()}


def shortened(script):
    """Return a script without each command, from the last one on, without which its end is the same."""
    need_script(script)
    left = copied(script)
    end = end_by(script)
    for at in reversed(range(len(script))):
        less = left[:at] + left[at + 1:]
        if end_by(less) == end:
            left = less
    return left


def copied(script):
    """Return a script that has no list in common with one."""
    return [("try", copied(command[1])) if command[0] == "try" else command for command in script]
