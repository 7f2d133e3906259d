"""Trees of tried values: their orders and leaves, the least ones, and their records and books."""

from lookdepths.books import Book, breaks, need_book, need_part
from lookdepths.clauses import bare, in_order, is_clause, opposite
from lookdepths.errors import Filled, InvalidFilling, InvalidTree
from lookdepths.looks import need_record
from lookdepths.orders import (
    Parts, best_tree, is_place, least_order, need_number, order_by_form, order_wanted, record_by_form, sets,
)


def is_tree(book, value):
    """Return whether any object is a tree of a book."""
    need_book(book)
    return is_tree_behind(book, value, ())


def is_tree_behind(book, value, part):
    """Return whether any object is a tree behind what is set."""
    if not is_place(value):
        return value in book.clauses() and breaks(part, value)
    name, high, low = value
    if name not in book.variables() or sets(part, name):
        return False
    return is_tree_behind(book, high, part + (name,)) and is_tree_behind(book, low, part + (opposite(name),))


def need_tree(book, tree):
    """Raise InvalidTree unless it is a tree of a book."""
    if not is_tree(book, tree):
        raise InvalidTree(tree)


def order_of(book, tree):
    """Return the order of a tree."""
    need_book(book)
    need_tree(book, tree)
    return order_by_form(tree)


def leaves_of(book, tree):
    """Return how many leaves a tree has."""
    return len(heights(book, tree))


def least_tree(book):
    """Return a tree of the least order; Filled if the book can be filled."""
    need_book(book)
    return best_tree(book)


def is_least_tree(book, value):
    """Return whether any object is a tree of the least order."""
    return is_tree(book, value) and order_by_form(value) == least_order(book)


def tree_of_record(book, record):
    """Return the tree of a record."""
    need_book(book)
    need_record(book, record)
    return tree_by_form(record)


def tree_by_form(record):
    """Return the tree of a record: its first literal is tried at the root, the others where it fails."""
    if len(record) == 1:
        return record[0]
    literal, within = record[0]
    tried, follows = tree_by_form(within), tree_by_form(record[1:])
    if literal == bare(literal):
        return (literal, follows, tried)
    return (bare(literal), tried, follows)


def record_of_tree(book, tree):
    """Return the record of a tree."""
    need_book(book)
    need_tree(book, tree)
    return record_by_form(tree)


def fewest_at_all(parts, lesser):
    """Return, for each number, the fewest leaves of a tree of the rest, above `parts.many` where there is none.

    Of the two trees of a place one is of those that `lesser` counts, so that the order grows by one at most; without
    `lesser` all trees count.
    """
    table = [parts.many + 1] * parts.many
    beside = table if lesser is None else lesser
    for number in reversed(range(parts.many)):
        if parts.ends[number]:
            table[number] = 1
        else:
            sums = [fewest_sides(table, beside, number, step) for step in parts.open_steps(number)]
            table[number] = min([parts.many + 1] + sums)
    return table


def fewest_sides(table, beside, number, step):
    """Return the fewest leaves of two trees together that are asked for at a number by a step, one of `beside`."""
    high, low = number + step, number + 2 * step
    return min(table[high] + beside[low], beside[high] + table[low])


def fewest_tables(parts, order):
    """Return the list of what `fewest_at_all` tells of the trees of at most each order, from 0 to at most a number."""
    tables = [fewest_at_all(parts, [parts.many + 1] * parts.many)]
    for _ in range(min(order, len(parts.names))):
        tables.append(fewest_at_all(parts, tables[-1]))
    return tables


def fewest_leaves(book):
    """Return the least number of leaves of any tree; Filled if the book can be filled."""
    need_book(book)
    parts = Parts(book)
    fewest = leaves_told(parts, fewest_at_all(parts, None))
    if fewest is None:
        raise Filled(book)
    return fewest


def fewest_at(book, order):
    """Return the least number of leaves of trees of at most an order, None if there is none; Filled if it can be."""
    need_book(book)
    need_number(order)
    order_wanted(book)
    parts = Parts(book)
    return leaves_told(parts, fewest_tables(parts, order)[-1])


def leaves_told(parts, table):
    """Return the fewest leaves of trees of the whole book by a table, None if there is none."""
    return table[0] if table[0] <= parts.many else None


def tree_of_fewest(book, order):
    """Return a tree of at most an order with the fewest leaves, None if there is none; Filled if it can be."""
    need_book(book)
    need_number(order)
    order_wanted(book)
    parts = Parts(book)
    tables = fewest_tables(parts, order)
    if leaves_told(parts, tables[-1]) is None:
        return None
    return small_tree_at(parts, tables, 0)


def small_tree_at(parts, tables, number):
    """Return a tree with the fewest leaves, of at most the order of the last table, behind the part of a number."""
    if parts.ends[number]:
        return parts.broken_at(number)
    table, lesser = tables[-1], tables[-2]
    step = min(parts.open_steps(number), key=lambda at: fewest_sides(table, lesser, number, at))
    high, low = number + step, number + 2 * step
    if table[high] + lesser[low] == table[number]:
        sides = (small_tree_at(parts, tables, high), small_tree_at(parts, tables[:-1], low))
    else:
        sides = (small_tree_at(parts, tables[:-1], high), small_tree_at(parts, tables, low))
    return (parts.name_of(step),) + sides


def is_tree_of_fewest(book, order, value):
    """Return whether any object is a tree of at most an order with the fewest leaves of such."""
    need_book(book)
    need_number(order)
    if not is_tree(book, value) or order_by_form(value) > order:
        return False
    return leaves_of(book, value) == fewest_at(book, order)


def leaves_by_order(book):
    """Return the dictionary from the orders, the least one first, to the fewest leaves, till these are least of all."""
    fewest = fewest_leaves(book)
    parts = Parts(book)
    counts = [leaves_told(parts, table) for table in fewest_tables(parts, len(parts.names))]
    last = counts.index(fewest)
    return {order: counts[order] for order in range(last + 1) if counts[order] is not None}


def need_whole(book, part):
    """Raise InvalidFilling unless it is a part-filling of all variables of a book."""
    need_part(book, part)
    if len(part) != len(book.variables()):
        raise InvalidFilling(part)


def leaf_at(book, tree, part):
    """Return the leaf to which a part-filling of all variables leads."""
    need_book(book)
    need_tree(book, tree)
    need_whole(book, part)
    while is_place(tree):
        tree = taken(tree, part)
    return tree


def taken(tree, part):
    """Return the side of a place to which a part-filling leads."""
    name, high, low = tree
    return high if name in part else low


def asked_on(book, tree, part):
    """Return the list of the variables on the way to which a part-filling leads."""
    need_book(book)
    need_tree(book, tree)
    need_whole(book, part)
    asked = []
    while is_place(tree):
        asked.append(tree[0])
        tree = taken(tree, part)
    return asked


def ways_to_leaves(book, tree):
    """Return the list of the part-fillings on the ways to all leaves, the true sides first."""
    need_book(book)
    need_tree(book, tree)
    return [in_order(way) for way in ways_behind(tree, ())]


def ways_behind(tree, part):
    """Return the list of what is set on the ways to all leaves behind what is set."""
    if not is_place(tree):
        return [part]
    name, high, low = tree
    return ways_behind(high, part + (name,)) + ways_behind(low, part + (opposite(name),))


def heights(book, tree):
    """Return the list of how many literals are set on the ways to all leaves, the true sides first."""
    return [len(way) for way in ways_to_leaves(book, tree)]


def asks_apart(value, asked):
    """Return whether any object is, by its form, a tree that asks no variable twice, nor one of a list, that grows."""
    if is_clause(value):
        return True
    if not is_place(value) or value[0] in asked:
        return False
    asked.append(value[0])
    return asks_apart(value[1], asked) and asks_apart(value[2], asked)


def book_of_tree(tree):
    """Return the book of a tree by its form that asks no variable at two places: a clause for each leaf."""
    if not asks_apart(tree, []):
        raise InvalidTree(tree)
    return Book([in_order([opposite(literal) for literal in way]) for way in ways_behind(tree, ())])
