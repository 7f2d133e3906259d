"""The fewest leaves of trees, by their orders, behind all part-fillings of a book that can't be filled."""

from lookdepths.orders import broken_on
from lookdepths.tables import numbers_in


def leaves_at_most(table, order):
    """Return the list, by number, of the fewest leaves of trees of at most an order, above `table.many` for none."""
    grow_leaves(table, order)
    return table.kept_leaves[min(order, len(table.kept_leaves) - 1)]


def grow_leaves(table, order):
    """Keep such lists of a table up to an order, or to the one behind which they stay the same."""
    found = table.kept_leaves
    if len(found) > order or is_settled(found):
        return
    cells = open_cells(table)
    if not found:
        found.append([1 if table.ends >> number & 1 else table.many + 1 for number in range(table.many)])
    while len(found) <= order and not is_settled(found):
        found.append(next_leaves(table, cells, found[-1]))


def is_settled(lists):
    """Return whether the last two of some lists are alike."""
    return len(lists) > 1 and lists[-1] == lists[-2]


def open_cells(table):
    """Return the list of the numbers that break no clause, from the greatest on, with the steps of what is not set."""
    steps_of = [()]
    for step, _ in table.turns:
        steps_of = [steps + (step,) for steps in steps_of] + steps_of + steps_of
    return [(number, steps_of[number]) for number in reversed(numbers_in(table.whole & ~table.ends))]


def next_leaves(table, cells, lesser):
    """Return the list for the next order: of the two trees of a place one is of those that `lesser` counts."""
    found = [1] * table.many
    for number, steps in cells:
        best = table.many + 1
        for step in steps:
            high, low = number + step, number + 2 * step
            best = min(best, found[high] + lesser[low], lesser[high] + found[low])
        found[number] = best
    return found


def few_leaves(table, order):
    """Return the fewest leaves of trees of the whole book of at most an order, None if there is none."""
    few = leaves_at_most(table, order)[0]
    return few if few <= table.many else None


def small_tree_at(book, order, number, way):
    """Return a tree of at most an order with the fewest leaves behind the part-filling of a number."""
    table, marks = book.table(), book.marks()
    if table.ends >> number & 1:
        return broken_on(marks, way)
    name, high_order, low_order = small_place(table, order, number)
    high, low = marks.sides[name]
    side = small_tree_at(book, high_order, number + table.worth[name], way | high)
    return (name, side, small_tree_at(book, low_order, number + 2 * table.worth[name], way | low))


def small_place(table, order, number):
    """Return a variable to ask and the orders of its true and its false side for the fewest leaves at a number."""
    found, lesser = leaves_at_most(table, order), leaves_at_most(table, order - 1)
    for name, (step, free) in zip(table.names, table.turns):
        high, low = number + step, number + 2 * step
        if free >> number & 1 and found[high] + lesser[low] == found[number]:
            return (name, order, order - 1)
        if free >> number & 1 and lesser[high] + found[low] == found[number]:
            return (name, order - 1, order)
    return None
