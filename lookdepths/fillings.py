"""Fillings, and solving at a depth: what may be set, ways, traps, and where solving never has to go back."""

from lookdepths.books import need_book, need_part
from lookdepths.clauses import bare
from lookdepths.depths import is_closed
from lookdepths.errors import Refused
from lookdepths.orders import need_depth
from lookdepths.tables import count_in, first_in


def filled(table):
    """Return the set of the fillings of a book."""
    return table.bits_filled_up() & ~table.ends


def fillings_of(book):
    """Return the ascending list of the fillings of a book."""
    need_book(book)
    return book.table().parts_in(filled(book.table()))


def many_fillings(book):
    """Return how many fillings a book has."""
    need_book(book)
    return count_in(filled(book.table()))


def any_filling(book):
    """Return a filling of a book, None if there is none."""
    need_book(book)
    found = filled(book.table())
    return book.table().part_at(first_in(found)) if found else None


def need_filling(book):
    """Raise Refused with the book if it can't be filled."""
    if book.table().barred & 1:
        raise Refused(book)


def sure_literals(book):
    """Return the ascending list of the literals that all fillings have; Refused if the book can't be filled."""
    need_book(book)
    need_filling(book)
    table = book.table()
    found = filled(table)
    return [literal for literal in sorted(table.worth) if found & table.having[literal] == found]


def settable(table, number, depth):
    """Return the ascending list of the literals that may be set behind a part-filling at a depth."""
    shown = table.level(depth)
    worth = table.worth
    free = [literal for literal in worth if number // worth[bare(literal)] % 3 == 0]
    return sorted([literal for literal in free if not shown >> number + worth[literal] & 1])


def may_set(book, part, depth):
    """Return the ascending list of the literals that may be set at a part-filling at a depth."""
    need_book(book)
    need_part(book, part)
    need_depth(depth)
    return settable(book.table(), book.table().number_of(part), depth)


def first_steps(book, part, depth):
    """Return the list of tuples (literal, how many may be set) of solving that always sets the first literal."""
    need_book(book)
    need_part(book, part)
    need_depth(depth)
    table = book.table()
    number = table.number_of(part)
    steps = []
    choices = settable(table, number, depth)
    while choices:
        steps.append((choices[0], len(choices)))
        number += table.worth[choices[0]]
        choices = settable(table, number, depth)
    return steps


def first_way(book, part, depth):
    """Return the list of the literals that are set if always the first one that may be is."""
    return [literal for literal, _ in first_steps(book, part, depth)]


def looks_used(book, part, depth):
    """Return the list, for each literal of the first way, of how many literals may be set just before it is."""
    return [many for _, many in first_steps(book, part, depth)]


def is_way(book, part, depth, value):
    """Return whether any object is the list of the literals of some solving, to its end."""
    need_book(book)
    need_part(book, part)
    need_depth(depth)
    if not isinstance(value, list):
        return False
    table = book.table()
    number = table.number_of(part)
    for literal in value:
        if not isinstance(literal, str) or literal not in settable(table, number, depth):
            return False
        number += table.worth[literal]
    return not settable(table, number, depth)


def goes_through(book, depth):
    """Return whether solving at a depth never has to go back, whatever is set from wherever."""
    return is_closed(book, depth)


def trapped(book, depth):
    """Return the set of the part-fillings whose rest can't be filled though looking at a depth does not show it."""
    need_book(book)
    need_depth(depth)
    return book.table().barred & ~book.table().level(depth)


def traps(book, depth):
    """Return the ascending list of the traps for a depth."""
    found = trapped(book, depth)
    return book.table().parts_in(found)


def any_trap(book, depth):
    """Return a trap for a depth, None if there is none."""
    found = trapped(book, depth)
    return book.table().part_at(first_in(found)) if found else None


def is_trap(book, depth, value):
    """Return whether any object is a trap for a depth."""
    found = trapped(book, depth)
    number = number_if_part(book, value)
    return number is not None and found >> number & 1 == 1


def number_if_part(book, value):
    """Return the number of any object that is a part-filling of a book, None if it is none."""
    if book.marks().part_in(value) is None:
        return None
    return book.table().number_of(value)


def sure_depth(book):
    """Return the least depth at which looking forces, wherever the rest can be filled, just what is sure there."""
    need_book(book)
    need_filling(book)
    table = book.table()
    # Where some literal is sure and none is forced, it never is; where one is forced, what follows tells the others.
    lacking = table.just_below(table.barred) & ~table.barred
    depth = 0
    while lacking & ~forcing(table, depth):
        depth += 1
    return depth


def forcing(table, depth):
    """Return the set of the part-fillings at which looking at a depth forces a literal, or shows the rest."""
    return table.just_below(table.level(depth - 1)) if depth > 0 else 0
