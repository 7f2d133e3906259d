"""Trees of tried values: their orders and leaves, the least ones, and their records and books."""

from lookdepths.books import known_book, need_book, need_part
from lookdepths.clauses import bare, in_order, is_clause, opposite
from lookdepths.errors import InvalidFilling, InvalidTree
from lookdepths.leaves import few_leaves, small_tree_at
from lookdepths.looks import need_record
from lookdepths.orders import best_tree, is_place, joined_order, least_order, need_number, order_wanted, record_by_form


def is_tree(book, value):
    """Return whether any object is a tree of a book."""
    need_book(book)
    return order_if_tree(book, value) is not None


def order_if_tree(book, value):
    """Return the order of any object that is a tree of a book, None if it is none."""
    return order_behind_way(book.marks(), value, 0)


def order_behind_way(marks, value, way):
    """Return the order of any object that is a tree behind what is set, None if it is none."""
    if not isinstance(value, tuple):
        return None
    if len(value) == 3 and isinstance(value[1], tuple):
        return place_order(marks, value, way)
    broken = marks.row_in(value)
    return None if broken is None or broken & way != broken else 0


def place_order(marks, value, way):
    """Return the order of a tuple of three things that is a tree behind what is set, None if it is none."""
    name, high, low = value
    sides = marks.sides_of(name, way)
    if sides is None:
        return None
    one = order_behind_way(marks, high, way | sides[0])
    other = None if one is None else order_behind_way(marks, low, way | sides[1])
    return None if other is None else joined_order(one, other)


def need_tree(book, tree):
    """Raise InvalidTree unless it is a tree of a book."""
    if order_if_tree(book, tree) is None:
        raise InvalidTree(tree)


def order_of(book, tree):
    """Return the order of a tree."""
    need_book(book)
    order = order_if_tree(book, tree)
    if order is None:
        raise InvalidTree(tree)
    return order


def leaves_of(book, tree):
    """Return how many leaves a tree has."""
    need_book(book)
    need_tree(book, tree)
    return leaves_by_form(tree)


def leaves_by_form(tree):
    """Return how many leaves a tree has."""
    if not is_place(tree):
        return 1
    return leaves_by_form(tree[1]) + leaves_by_form(tree[2])


def least_tree(book):
    """Return a tree of the least order; Filled if the book can be filled."""
    need_book(book)
    return best_tree(book)


def is_least_tree(book, value):
    """Return whether any object is a tree of the least order."""
    need_book(book)
    order = order_if_tree(book, value)
    return order is not None and order == least_order(book)


def tree_of_record(book, record):
    """Return the tree of a record."""
    need_book(book)
    need_record(book, record)
    return tree_by_form(record)


def tree_by_form(record):
    """Return the tree of a record: its first literal is tried at the root, the others where it fails."""
    if len(record) == 1:
        return record[0]
    literal, within = record[0]
    tried, follows = tree_by_form(within), tree_by_form(record[1:])
    if literal == bare(literal):
        return (literal, follows, tried)
    return (bare(literal), tried, follows)


def record_of_tree(book, tree):
    """Return the record of a tree."""
    need_book(book)
    need_tree(book, tree)
    return record_by_form(tree)


def fewest_leaves(book):
    """Return the least number of leaves of any tree; Filled if the book can be filled."""
    need_book(book)
    order_wanted(book)
    # No tree has a greater order than the book has variables.
    return few_leaves(book.table(), len(book.variables()))


def fewest_at(book, order):
    """Return the least number of leaves of trees of at most an order, None if there is none; Filled if it can be."""
    need_book(book)
    need_number(order)
    order_wanted(book)
    return few_leaves(book.table(), order)


def tree_of_fewest(book, order):
    """Return a tree of at most an order with the fewest leaves, None if there is none; Filled if it can be."""
    if fewest_at(book, order) is None:
        return None
    return small_tree_at(book, order, 0, 0)


def is_tree_of_fewest(book, order, value):
    """Return whether any object is a tree of at most an order with the fewest leaves of such."""
    need_book(book)
    need_number(order)
    reached = order_if_tree(book, value)
    if reached is None or reached > order:
        return False
    return leaves_by_form(value) == few_leaves(book.table(), order)


def leaves_by_order(book):
    """Return the dictionary from the orders, the least one first, to the fewest leaves, till these are least of all."""
    fewest = fewest_leaves(book)
    table = book.table()
    counts = {}
    order = table.order_at(0)
    while fewest not in list(counts.values()):
        counts[order] = few_leaves(table, order)
        order += 1
    return counts


def need_whole(book, part):
    """Raise InvalidFilling unless it is a part-filling of all variables of a book."""
    need_part(book, part)
    if len(part) != len(book.variables()):
        raise InvalidFilling(part)


def leaf_at(book, tree, part):
    """Return the leaf to which a part-filling of all variables leads."""
    need_book(book)
    need_tree(book, tree)
    need_whole(book, part)
    while is_place(tree):
        tree = taken(tree, part)
    return tree


def taken(tree, part):
    """Return the side of a place to which a part-filling leads."""
    name, high, low = tree
    return high if name in part else low


def asked_on(book, tree, part):
    """Return the list of the variables on the way to which a part-filling leads."""
    need_book(book)
    need_tree(book, tree)
    need_whole(book, part)
    asked = []
    while is_place(tree):
        asked.append(tree[0])
        tree = taken(tree, part)
    return asked


def ways_to_leaves(book, tree):
    """Return the list of the part-fillings on the ways to all leaves, the true sides first."""
    need_book(book)
    need_tree(book, tree)
    return [in_order(way) for way in ways_behind(tree, ())]


def ways_behind(tree, part):
    """Return the list of what is set on the ways to all leaves behind what is set."""
    if not is_place(tree):
        return [part]
    name, high, low = tree
    return ways_behind(high, part + (name,)) + ways_behind(low, part + (opposite(name),))


def heights(book, tree):
    """Return the list of how many literals are set on the ways to all leaves, the true sides first."""
    return [len(way) for way in ways_to_leaves(book, tree)]


def asks_apart(value, asked):
    """Return whether any object is, by its form, a tree that asks no variable twice, nor one of a list, that grows."""
    if is_clause(value):
        return True
    if not is_place(value) or value[0] in asked:
        return False
    asked.append(value[0])
    return asks_apart(value[1], asked) and asks_apart(value[2], asked)


def book_of_tree(tree):
    """Return the book of a tree by its form that asks no variable at two places: a clause for each leaf."""
    if not asks_apart(tree, []):
        raise InvalidTree(tree)
    return known_book([in_order([opposite(literal) for literal in way]) for way in ways_behind(tree, ())])
