"""Counts, and least orders and trees of books: what looks, trees, depths and opponents share."""

from lookdepths.books import pieces
from lookdepths.clauses import is_variable, opposite
from lookdepths.errors import Filled, InvalidDepth, InvalidNumber

# With more variables a book's pieces are asked one by one: a table has a place for each part-filling.
MOST_AT_ONCE = 8


def is_count(value):
    """Return whether any object is a whole number of at least 0."""
    return isinstance(value, int) and not isinstance(value, bool) and value >= 0


def need_depth(depth):
    """Raise InvalidDepth unless it is a count."""
    if not is_count(depth):
        raise InvalidDepth(depth)


def need_number(number):
    """Raise InvalidNumber unless it is a count."""
    if not is_count(number):
        raise InvalidNumber(number)


def joined_order(one, other):
    """Return the order of a tree from those of its two trees."""
    if one == other:
        return one + 1
    return max(one, other)


def handy_pieces(book):
    """Return books of few variables that laid side by side are the book, the book alone where it has few."""
    if len(book.variables()) <= MOST_AT_ONCE:
        return [book]
    return pieces(book)


def least_order(book):
    """Return the least order of a tree of a book, None if it can be filled."""
    orders = [piece.table().order_at(0) for piece in handy_pieces(book)]
    return min([order for order in orders if order is not None], default=None)


def order_wanted(book):
    """Return the least order of a tree of a book; Filled if it can be filled."""
    order = least_order(book)
    if order is None:
        raise Filled(book)
    return order


def best_tree(book):
    """Return a tree of the least order of a book; Filled if it can be filled."""
    order_wanted(book)
    return best_tree_at(book, 0, 0)


def best_tree_at(book, number, way):
    """Return a tree of the least order behind the part-filling of a number, its bits being the way."""
    table, marks = book.table(), book.marks()
    if table.ends >> number & 1:
        return broken_on(marks, way)
    name = best_name(table, number)
    high, low = marks.sides[name]
    side = best_tree_at(book, number + table.worth[name], way | high)
    return (name, side, best_tree_at(book, number + 2 * table.worth[name], way | low))


def broken_on(marks, way):
    """Return the first clause that what is set breaks."""
    return [row for row in marks.breaking if marks.breaking[row] & way == marks.breaking[row]][0]


def best_name(table, number):
    """Return the first variable that the root of a tree of the least order may ask behind a part-filling."""
    depth = table.order_at(number)
    level, lesser = table.level(depth), table.level(depth - 1)
    for name, (step, free) in zip(table.names, table.turns):
        high, low = number + step, number + 2 * step
        if free >> number & (lesser >> high & level >> low | level >> high & lesser >> low) & 1:
            return name
    return None


def is_place(value):
    """Return whether any object is a tuple of a variable and two tuples: no clause is."""
    if not isinstance(value, tuple) or len(value) != 3 or not is_variable(value[0]):
        return False
    return isinstance(value[1], tuple) and isinstance(value[2], tuple)


def order_by_form(tree):
    """Return the order of a tree."""
    if not is_place(tree):
        return 0
    return joined_order(order_by_form(tree[1]), order_by_form(tree[2]))


def record_by_form(tree):
    """Return the record of a tree: the tree of the lesser order, the true side of two alike, is tried first."""
    if not is_place(tree):
        return [tree]
    name, high, low = tree
    if order_by_form(high) <= order_by_form(low):
        return [(opposite(name), record_by_form(high))] + record_by_form(low)
    return [(name, record_by_form(low))] + record_by_form(high)


def sets(part, name):
    """Return whether one of some literals is of a variable."""
    return name in part or opposite(name) in part
