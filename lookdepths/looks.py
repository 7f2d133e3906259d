"""Looking ahead: what it shows at each depth, what it forces, and its records."""

from lookdepths.books import breaks, need_book, rest
from lookdepths.clauses import bare, in_order, is_literal, is_variable, opposite
from lookdepths.errors import Filled, InvalidLook, InvalidVariable, Refused
from lookdepths.orders import (
    Parts, best_tree, least_order, least_orders, need_depth, order_wanted, record_by_form, sets,
)


def is_seen(order, depth):
    """Return whether looking at a depth shows a rest of a least order, None if it can be filled."""
    return order is not None and order <= depth


def shows(book, depth):
    """Return whether looking at a depth shows a book."""
    need_book(book)
    need_depth(depth)
    return is_seen(least_order(book), depth)


def forced(book, depth):
    """Return the part-filling of all literals that looking at a depth forces; Refused if it shows the book."""
    need_book(book)
    need_depth(depth)
    parts = Parts(book)
    orders = least_orders(parts)
    if is_seen(orders[0], depth):
        raise Refused(book)
    chosen = []
    literal = forced_next(parts, orders, chosen, parts.names, depth)
    while literal is not None:
        chosen.append(literal)
        literal = forced_next(parts, orders, chosen, parts.names, depth)
    return in_order(chosen)


def forced_next(parts, orders, chosen, names, depth):
    """Return the literal that is forced behind some chosen ones, of the first of some variables, None if none is."""
    number = parts.number_of(chosen)
    for name in names:
        for literal in (name, opposite(name)):
            if not sets(chosen, name) and is_seen(orders[number + parts.worth[literal]], depth - 1):
                return opposite(literal)
    return None


def left_by(book, depth):
    """Return the rest of what looking at a depth forces; Refused if it shows the book."""
    return rest(book, forced(book, depth))


def shown_literals(book, depth):
    """Return the ascending list of the literals of the book's variables whose rest looking at a depth shows."""
    need_book(book)
    need_depth(depth)
    below = orders_below(book)
    return [literal for literal in below if is_seen(below[literal], depth)]


def orders_below(book):
    """Return the dictionary from the literals of the book's variables to the least orders of their rests."""
    parts = Parts(book)
    orders = least_orders(parts)
    return {literal: orders[parts.worth[literal]] for literal in sorted(parts.worth)}


def need_order(book, order):
    """Raise InvalidVariable unless it is a list of all variables of a book, each once."""
    if not isinstance(order, list) or not all([is_variable(name) for name in order]):
        raise InvalidVariable(order)
    if sorted(order) != book.variables():
        raise InvalidVariable(order)


def forced_by(book, depth, order):
    """Return the list of the literals that looking at a depth forces, by the first variable of an order each time."""
    need_book(book)
    need_depth(depth)
    need_order(book, order)
    parts = Parts(book)
    orders = least_orders(parts)
    chosen = []
    left = book
    while () not in left.clauses():
        # What is gone from the rest is not tried: behind a book that is shown, looking would force it, too.
        names = [name for name in order if name in left.variables()]
        literal = forced_next(parts, orders, chosen, names, depth)
        if literal is None:
            return chosen
        chosen.append(literal)
        left = rest(left, (literal,))
    return chosen


def record_depth(book, value, part):
    """Return the least depth at which any object is a record behind what is set, None if it is none at any."""
    if not isinstance(value, list) or not value:
        return None
    depth = 0
    for entry in value[:-1]:
        within = tried_depth(book, entry, part)
        if within is None:
            return None
        depth = max(depth, within + 1)
        part = part + (entry[0],)
    if value[-1] not in book.clauses() or not breaks(part, value[-1]):
        return None
    return depth


def tried_depth(book, entry, part):
    """Return the depth of the record in any object that is a tuple (literal, record), otherwise None."""
    if not isinstance(entry, tuple) or len(entry) != 2 or not is_literal(entry[0]):
        return None
    name = bare(entry[0])
    if name not in book.variables() or sets(part, name):
        return None
    return record_depth(book, entry[1], part + (opposite(entry[0]),))


def is_record(book, depth, value):
    """Return whether any object is a record of a look at a depth or a lesser one."""
    need_book(book)
    need_depth(depth)
    return is_seen(record_depth(book, value, ()), depth)


def record_of(book, depth):
    """Return a record of a look at a depth; Refused with the book unless looking at it shows the book."""
    if not shows(book, depth):
        raise Refused(book)
    return record_by_form(best_tree(book))


def least_depth(book):
    """Return the least depth at which looking shows a book; Filled if it can be filled."""
    need_book(book)
    return order_wanted(book)


def depth_at(book, part):
    """Return the least depth at which looking shows the rest of a part-filling; Filled with it if it can be filled."""
    depth = least_order(rest(book, part))
    if depth is None:
        raise Filled(part)
    return depth


def need_record(book, record):
    """Raise InvalidLook unless it is a record at some depth."""
    if record_depth(book, record, ()) is None:
        raise InvalidLook(record)


def clauses_in(book, record):
    """Return how many clauses stand in a record, those in the records in it counted."""
    need_book(book)
    need_record(book, record)
    return clauses_by_form(record)


def clauses_by_form(record):
    """Return how many clauses stand in a record."""
    return 1 + sum([clauses_by_form(within) for _, within in record[:-1]])


def depth_of_record(book, record):
    """Return the least depth of which a record is one."""
    need_book(book)
    need_record(book, record)
    return record_depth(book, record, ())


def depths_below(book):
    """Return the dictionary from the literals of the book's variables to the least depths of their rests."""
    need_book(book)
    return orders_below(book)
