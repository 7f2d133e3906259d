"""The least orders of all part-fillings of a book at once, and what looks, trees and opponents share.

A part-filling is kept as a number with a digit of 0, 1 or 2 for each variable: not set, true, false. Setting one
literal more makes the number greater, so a list that is filled from its end on has what it asks for. The least order
of a tree is the least depth of a look ([36]), so one list tells both.
"""

from lookdepths.books import breaks
from lookdepths.clauses import in_order, is_variable, opposite
from lookdepths.errors import Filled, InvalidDepth, InvalidNumber


class Parts:
    """The part-fillings of a book by their numbers; `ends` tells which of them break a clause."""

    def __init__(self, book):
        self.rows = book.clauses()
        self.names = book.variables()
        self.steps = []
        self.worth = {}
        self.many = 1
        for name in self.names:
            self.steps.append(self.many)
            self.worth[name] = self.many
            self.worth[opposite(name)] = 2 * self.many
            self.many = 3 * self.many
        self.ends = self.marked_ends()

    def marked_ends(self):
        """Return, for each number, whether its part-filling breaks a clause."""
        marks = [False] * self.many
        for row in self.rows:
            marks[self.number_of([opposite(literal) for literal in row])] = True
        for step in self.steps:
            for number in range(self.many):
                digit = number // step % 3
                if digit > 0 and marks[number - digit * step]:
                    marks[number] = True
        return marks

    def number_of(self, literals):
        """Return the number of the part-filling that sets some literals."""
        return sum([self.worth[literal] for literal in literals])

    def part_at(self, number):
        """Return the part-filling of a number."""
        signs = [(name, number // self.worth[name] % 3) for name in self.names]
        return in_order([name if digit == 1 else opposite(name) for name, digit in signs if digit > 0])

    def all_at(self):
        """Return the list of all part-fillings, by their numbers."""
        return [self.part_at(number) for number in range(self.many)]

    def open_steps(self, number):
        """Return, for each variable that is not set, by how much a number grows if it is set true."""
        return [step for step in self.steps if number // step % 3 == 0]

    def name_of(self, step):
        """Return the variable that a step sets true."""
        return self.names[self.steps.index(step)]

    def broken_at(self, number):
        """Return the first clause that the part-filling of a number breaks."""
        part = self.part_at(number)
        return [row for row in self.rows if breaks(part, row)][0]


def is_count(value):
    """Return whether any object is a whole number of at least 0."""
    return isinstance(value, int) and not isinstance(value, bool) and value >= 0


def need_depth(depth):
    """Raise InvalidDepth unless it is a count."""
    if not is_count(depth):
        raise InvalidDepth(depth)


def need_number(number):
    """Raise InvalidNumber unless it is a count."""
    if not is_count(number):
        raise InvalidNumber(number)


def joined_order(one, other):
    """Return the order of a tree from those of its two trees."""
    if one == other:
        return one + 1
    return max(one, other)


def least_orders(parts):
    """Return, for each number, the least order of a tree of the rest, None where the rest can be filled."""
    orders = [None] * parts.many
    for number in reversed(range(parts.many)):
        if parts.ends[number]:
            orders[number] = 0
        else:
            orders[number] = least_order_at(orders, number, parts.open_steps(number))
    return orders


def least_order_at(orders, number, steps):
    """Return the least order of a tree that asks one of some variables first, None if a rest can be filled."""
    least = None
    for step in steps:
        high, low = orders[number + step], orders[number + 2 * step]
        if high is None or low is None:
            return None
        order = joined_order(high, low)
        if least is None or order < least:
            least = order
    return least


def least_order(book):
    """Return the least order of a tree of a book, None if it can be filled."""
    return least_orders(Parts(book))[0]


def order_wanted(book):
    """Return the least order of a tree of a book; Filled if it can be filled."""
    order = least_order(book)
    if order is None:
        raise Filled(book)
    return order


def best_tree(book):
    """Return a tree of the least order of a book; Filled if it can be filled."""
    order_wanted(book)
    parts = Parts(book)
    return best_tree_at(parts, least_orders(parts), 0)


def best_tree_at(parts, orders, number):
    """Return a tree of the least order behind the part-filling of a number."""
    if parts.ends[number]:
        return parts.broken_at(number)
    step = min(parts.open_steps(number), key=lambda at: joined_order(orders[number + at], orders[number + 2 * at]))
    high = best_tree_at(parts, orders, number + step)
    return (parts.name_of(step), high, best_tree_at(parts, orders, number + 2 * step))


def is_place(value):
    """Return whether any object is a tuple of a variable and two tuples: no clause is."""
    if not isinstance(value, tuple) or len(value) != 3 or not is_variable(value[0]):
        return False
    return isinstance(value[1], tuple) and isinstance(value[2], tuple)


def order_by_form(tree):
    """Return the order of a tree."""
    if not is_place(tree):
        return 0
    return joined_order(order_by_form(tree[1]), order_by_form(tree[2]))


def record_by_form(tree):
    """Return the record of a tree: the tree of the lesser order, the true side of two alike, is tried first."""
    if not is_place(tree):
        return [tree]
    name, high, low = tree
    if order_by_form(high) <= order_by_form(low):
        return [(opposite(name), record_by_form(high))] + record_by_form(low)
    return [(name, record_by_form(low))] + record_by_form(high)


def sets(part, name):
    """Return whether one of some literals is of a variable."""
    return name in part or opposite(name) in part
