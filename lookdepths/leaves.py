"""The fewest leaves of trees, by their orders, behind all part-fillings of a book that can't be filled.

For each order there is a dictionary from numbers of leaves to the sets of the part-fillings behind which a tree of at
most this order has at least so many.
"""

from lookdepths.orders import broken_on


def leaves_at_most(table, order):
    """Return the sets by the fewest leaves of trees of at most an order; they are kept, and not to be changed."""
    found = table.kept_leaves
    if not found:
        found.append({1: table.ends})
    # Once two orders are alike all greater ones are.
    while len(found) <= order and found[-2:-1] != found[-1:]:
        found.append(next_leaves(table, found[-1], table.level(len(found))))
    return found[min(order, len(found) - 1)]


def next_leaves(table, lesser, whole):
    """Return the sets for the next order, of all of `whole`: one of the two trees of a place is of the lesser order."""
    beside = {count: sides_of(table, lesser[count]) for count in lesser}
    sides = {1: beside[1]}
    found = {1: table.ends}
    left = whole & ~table.ends
    count = 1
    while left:
        count += 1
        bits = left & joined_sides(sides, beside, count)
        if bits:
            found[count] = bits
            sides[count] = sides_of(table, bits)
            left &= ~bits
    return found


def sides_of(table, bits):
    """Return the list, by variables, of the sets whose rests, with it true and with it false, are in a set."""
    return [(free & bits >> step, free & bits >> 2 * step) for step, free in table.turns]


def joined_sides(sides, beside, count):
    """Return the set of places one of whose trees is of the one sides, the other of the others, with so many leaves."""
    bits = 0
    for few in sides:
        if count - few in beside:
            for (high, low), (other_high, other_low) in zip(sides[few], beside[count - few]):
                bits |= high & other_low | other_high & low
    return bits


def count_at(found, number):
    """Return the fewest leaves behind the part-filling of a number by such sets, None if there is no tree."""
    for count in found:
        if found[count] >> number & 1:
            return count
    return None


def few_leaves(table, order):
    """Return the fewest leaves of trees of the whole book of at most an order, None if there is none."""
    return count_at(leaves_at_most(table, order), 0)


def small_tree_at(book, order, number, way):
    """Return a tree of at most an order with the fewest leaves behind the part-filling of a number."""
    table, marks = book.table(), book.marks()
    if table.ends >> number & 1:
        return broken_on(marks, way)
    name, high_order, low_order = small_place(table, order, number)
    high, low = marks.sides[name]
    side = small_tree_at(book, high_order, number + table.worth[name], way | high)
    return (name, side, small_tree_at(book, low_order, number + 2 * table.worth[name], way | low))


def small_place(table, order, number):
    """Return a variable to ask and the orders of its true and its false side for the fewest leaves at a number."""
    found, lesser = leaves_at_most(table, order), leaves_at_most(table, order - 1)
    count = count_at(found, number)
    for name, (step, free) in zip(table.names, table.turns):
        if free >> number & 1:
            high, low = number + step, number + 2 * step
            if adds_up(count_at(found, high), count_at(lesser, low), count):
                return (name, order, order - 1)
            if adds_up(count_at(lesser, high), count_at(found, low), count):
                return (name, order - 1, order)
    return None


def adds_up(one, other, count):
    """Return whether two numbers of leaves, None where there is no tree, are so many together."""
    return one is not None and other is not None and one + other == count
