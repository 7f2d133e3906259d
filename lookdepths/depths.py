"""What follows from a book, how deep it lies, and the depth of any book."""

from lookdepths.books import is_part, need_book, rest_of
from lookdepths.clauses import in_order, opposite
from lookdepths.errors import InvalidClause, Refused
from lookdepths.looks import order_behind
from lookdepths.orders import best_tree, need_depth
from lookdepths.tables import count_in, first_in
from lookdepths.trees import order_if_tree


def contraries(literals):
    """Return the ascending tuple of the contraries of some literals."""
    return in_order([opposite(literal) for literal in literals])


def need_clause_of(book, clause):
    """Raise InvalidClause unless it is a clause of the variables of a book."""
    if not is_part(book, clause):
        raise InvalidClause(clause)


def follows(book, clause):
    """Return whether each filling of a book has one of the literals of a clause."""
    need_book(book)
    need_clause_of(book, clause)
    return order_behind(book, contraries(clause)) is not None


def seen_at(book, clause):
    """Return the least depth at which looking shows the rest of a clause's contraries; Refused unless it follows."""
    need_book(book)
    need_clause_of(book, clause)
    depth = order_behind(book, contraries(clause))
    if depth is None:
        raise Refused(clause)
    return depth


def is_least(book, clause):
    """Return whether no clause of some literals alone of a clause that follows does; Refused unless it follows."""
    seen_at(book, clause)
    return not any([order_behind(book, contraries(less)) is not None for less in one_less(clause)])


def one_less(literals):
    """Return the list of the tuples that have one literal less."""
    return [literals[:at] + literals[at + 1:] for at in range(len(literals))]


def least_barred(table):
    """Return the set of the part-fillings whose rest can't be filled, though it can with any literal less."""
    return table.barred & ~table.just_above(table.barred)


def least_following(book):
    """Return the ascending list of the least clauses that follow."""
    need_book(book)
    return book.table().clauses_in(least_barred(book.table()))


def depth_of(book):
    """Return the greatest of the least depths of all rests that can't be filled, 0 if there is none."""
    need_book(book)
    return book.table().depth()


def just_at(table, depth):
    """Return the set of the part-fillings of whose rests a depth is the least that shows them."""
    if depth == 0:
        return table.ends
    return table.level(depth) & ~table.level(depth - 1)


def deepest(book):
    """Return a part-filling at which the depth of a book is reached, None if no rest is without filling."""
    need_book(book)
    table = book.table()
    found = just_at(table, table.depth())
    return table.part_at(first_in(found)) if found else None


def is_deepest(book, value):
    """Return whether any object is a part-filling at which the depth of a book is reached."""
    if not is_part(book, value):
        return False
    table = book.table()
    return just_at(table, table.depth()) >> table.number_of(value) & 1 == 1


def is_closed(book, depth):
    """Return whether each clause that follows is seen at a depth or a lesser one."""
    need_book(book)
    need_depth(depth)
    return book.table().depth() <= depth


def unseen(book, depth):
    """Return the ascending list of the least clauses that follow and are seen at a greater depth."""
    need_book(book)
    need_depth(depth)
    table = book.table()
    return table.clauses_in(least_barred(table) & ~table.level(depth))


def all_depths(book):
    """Return the dictionary from all part-fillings whose rest can't be filled to the least depths of their rests."""
    need_book(book)
    table = book.table()
    orders = table.orders()
    return {part: orders[number] for part, number in table.ascending() if orders[number] is not None}


def depths_counted(book):
    """Return the list of how many part-fillings whose rest can't be filled have each depth, from 0 on."""
    need_book(book)
    table = book.table()
    return [count_in(just_at(table, depth)) for depth in range(table.depth() + 1)]


def closing(book):
    """Return the closing with just the least clauses that follow, with trees of the least order."""
    return {clause: tree_behind(book, clause) for clause in least_following(book)}


def tree_behind(book, clause):
    """Return a tree of the least order of the rest of a clause's contraries, for one that follows; it is kept."""
    kept = book.table().kept_trees
    if clause not in kept:
        kept[clause] = best_tree(rest_of(book, contraries(clause)))
    return kept[clause]


def is_closing(book, depth, value):
    """Return whether any object is a closing of a book for a depth."""
    need_book(book)
    need_depth(depth)
    if not isinstance(value, dict) or not all([is_part(book, clause) for clause in value]):
        return False
    table = book.table()
    # A clause with a tree follows: so no rest that can be filled is among what breaks one of them.
    if table.barred & ~table.broken_by(list(value)):
        return False
    for clause in value:
        order = order_if_tree(rest_of(book, contraries(clause)), value[clause])
        if order is None or order > depth:
            return False
    return True
