"""Looking ahead: what it shows at each depth, what it forces, and its records."""

from lookdepths.books import need_book, need_part, rest_of
from lookdepths.clauses import in_order, is_variable, opposite
from lookdepths.errors import Filled, InvalidLook, InvalidVariable, Refused
from lookdepths.orders import (
    MOST_AT_ONCE, best_tree, handy_pieces, least_order, need_depth, order_wanted, record_by_form,
)


def is_seen(order, depth):
    """Return whether looking at a depth shows a rest of a least order, None if it can be filled."""
    return order is not None and order <= depth


def shows(book, depth):
    """Return whether looking at a depth shows a book."""
    need_book(book)
    need_depth(depth)
    return is_seen(least_order(book), depth)


def forced(book, depth):
    """Return the part-filling of all literals that looking at a depth forces; Refused if it shows the book."""
    need_book(book)
    need_depth(depth)
    if is_seen(least_order(book), depth):
        raise Refused(book)
    # What is forced in a piece is forced by it alone, as no other one is shown.
    return in_order([literal for piece in handy_pieces(book) for literal in forced_in(piece.table(), depth)])


def forced_in(table, depth):
    """Return the list of the literals that looking at a depth forces in a book that it does not show."""
    found = []
    literal = forced_next(table, 0, table.names, depth)
    while literal is not None:
        found.append(literal)
        literal = forced_next(table, table.number_of(found), table.names, depth)
    return found


def forced_next(table, number, names, depth):
    """Return the literal forced behind a part-filling by the first of some variables not set there, None if none is."""
    lesser = table.level(depth - 1) if depth > 0 else 0
    for name in names:
        step = table.worth[name]
        if number // step % 3 == 0 and lesser >> number + step & 1:
            return opposite(name)
        if number // step % 3 == 0 and lesser >> number + 2 * step & 1:
            return name
    return None


def left_by(book, depth):
    """Return the rest of what looking at a depth forces; Refused if it shows the book."""
    return rest_of(book, forced(book, depth))


def shown_literals(book, depth):
    """Return the ascending list of the literals of the book's variables whose rest looking at a depth shows."""
    need_book(book)
    need_depth(depth)
    below = orders_below(book)
    return [literal for literal in below if is_seen(below[literal], depth)]


def orders_below(book):
    """Return the dictionary from the literals of the book's variables to the least orders of their rests."""
    return {literal: order_behind(book, (literal,)) for literal in sorted(book.marks().bits)}


def order_behind(book, part):
    """Return the least order of a tree of the rest of what surely is a part-filling, None if it can be filled."""
    if len(book.variables()) > MOST_AT_ONCE:
        return least_order(rest_of(book, part))
    return book.table().order_at(book.table().number_of(part))


def need_order(book, order):
    """Raise InvalidVariable unless it is a list of all variables of a book, each once."""
    if not isinstance(order, list) or not all([is_variable(name) for name in order]):
        raise InvalidVariable(order)
    if sorted(order) != book.variables():
        raise InvalidVariable(order)


def forced_by(book, depth, order):
    """Return the list of the literals that looking at a depth forces, by the first variable of an order each time."""
    need_book(book)
    need_depth(depth)
    need_order(book, order)
    table = book.table()
    chosen = []
    left = book
    while () not in left.clauses():
        # What is gone from the rest is not tried: behind a book that is shown, looking would force it, too.
        names = [name for name in order if name in left.variables()]
        literal = forced_next(table, table.number_of(chosen), names, depth)
        if literal is None:
            return chosen
        chosen.append(literal)
        left = rest_of(left, (literal,))
    return chosen


def record_depth(marks, value, way):
    """Return the least depth at which any object is a record behind what is set, None if it is none at any."""
    if not isinstance(value, list) or not value:
        return None
    depth = 0
    for entry in value[:-1]:
        within = tried_depth(marks, entry, way)
        if within is None:
            return None
        depth = max(depth, within + 1)
        way |= marks.bits[entry[0]]
    broken = marks.row_in(value[-1])
    return None if broken is None or broken & way != broken else depth


def tried_depth(marks, entry, way):
    """Return the depth of the record in any object that is a tuple (literal, record), otherwise None."""
    if not isinstance(entry, tuple) or len(entry) != 2 or not isinstance(entry[0], str) or entry[0] not in marks.bits:
        return None
    bit = marks.bits[entry[0]]
    contrary_bit = marks.contraries(bit)
    if (bit | contrary_bit) & way:
        return None
    return record_depth(marks, entry[1], way | contrary_bit)


def is_record(book, depth, value):
    """Return whether any object is a record of a look at a depth or a lesser one."""
    need_book(book)
    need_depth(depth)
    return is_seen(record_depth(book.marks(), value, 0), depth)


def record_of(book, depth):
    """Return a record of a look at a depth; Refused with the book unless looking at it shows the book."""
    if not shows(book, depth):
        raise Refused(book)
    return record_by_form(best_tree(book))


def least_depth(book):
    """Return the least depth at which looking shows a book; Filled if it can be filled."""
    need_book(book)
    return order_wanted(book)


def depth_at(book, part):
    """Return the least depth at which looking shows the rest of a part-filling; Filled with it if it can be filled."""
    need_book(book)
    need_part(book, part)
    depth = order_behind(book, part)
    if depth is None:
        raise Filled(part)
    return depth


def need_record(book, record):
    """Raise InvalidLook unless it is a record at some depth."""
    if record_depth(book.marks(), record, 0) is None:
        raise InvalidLook(record)


def clauses_in(book, record):
    """Return how many clauses stand in a record, those in the records in it counted."""
    need_book(book)
    need_record(book, record)
    return clauses_by_form(record)


def clauses_by_form(record):
    """Return how many clauses stand in a record."""
    return 1 + sum([clauses_by_form(within) for _, within in record[:-1]])


def depth_of_record(book, record):
    """Return the least depth of which a record is one."""
    need_book(book)
    need_record(book, record)
    return record_depth(book.marks(), record, 0)


def depths_below(book):
    """Return the dictionary from the literals of the book's variables to the least depths of their rests."""
    need_book(book)
    return orders_below(book)
