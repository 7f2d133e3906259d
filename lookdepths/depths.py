"""What follows from a book, how deep it lies, and the depth of any book."""

from lookdepths.books import is_part, need_book, rest
from lookdepths.clauses import in_order, opposite
from lookdepths.errors import InvalidClause, Refused
from lookdepths.orders import Parts, least_order, least_orders, need_depth, order_by_form
from lookdepths.trees import is_tree, least_tree


def contraries(literals):
    """Return the ascending tuple of the contraries of some literals."""
    return in_order([opposite(literal) for literal in literals])


def need_clause_of(book, clause):
    """Raise InvalidClause unless it is a clause of the variables of a book."""
    if not is_part(book, clause):
        raise InvalidClause(clause)


def order_behind(book, clause):
    """Return the least order of a tree of the rest of a clause's contraries, None if the clause does not follow."""
    return least_order(rest(book, contraries(clause)))


def follows(book, clause):
    """Return whether each filling of a book has one of the literals of a clause."""
    need_book(book)
    need_clause_of(book, clause)
    return order_behind(book, clause) is not None


def seen_at(book, clause):
    """Return the least depth at which looking shows the rest of a clause's contraries; Refused unless it follows."""
    need_book(book)
    need_clause_of(book, clause)
    depth = order_behind(book, clause)
    if depth is None:
        raise Refused(clause)
    return depth


def is_least(book, clause):
    """Return whether no clause of some literals alone of a clause that follows does; Refused unless it follows."""
    seen_at(book, clause)
    return not any([order_behind(book, less) is not None for less in one_less(clause)])


def one_less(literals):
    """Return the list of the tuples that have one literal less."""
    return [literals[:at] + literals[at + 1:] for at in range(len(literals))]


def all_depths(book):
    """Return the dictionary from all part-fillings whose rest can't be filled to the least depths of their rests."""
    need_book(book)
    parts = Parts(book)
    found = list(zip(parts.all_at(), least_orders(parts)))
    return {part: depth for part, depth in sorted(found, key=lambda pair: pair[0]) if depth is not None}


def least_depths(book):
    """Return the dictionary from the least clauses that follow, ascending, to the depths at which they are seen."""
    depths = all_depths(book)
    least = [part for part in depths if not any([less in depths for less in one_less(part)])]
    return {clause: depths[contraries(clause)] for clause in sorted([contraries(part) for part in least])}


def least_following(book):
    """Return the ascending list of the least clauses that follow."""
    return list(least_depths(book))


def depth_of(book):
    """Return the greatest of the least depths of all rests that can't be filled, 0 if there is none."""
    return max([0] + list(all_depths(book).values()))


def deepest(book):
    """Return a part-filling at which the depth of a book is reached, None if no rest is without filling."""
    depths = all_depths(book)
    return max(depths, key=lambda part: depths[part], default=None)


def is_deepest(book, value):
    """Return whether any object is a part-filling at which the depth of a book is reached."""
    depths = all_depths(book)
    return is_part(book, value) and value in depths and depths[value] == depth_of(book)


def is_closed(book, depth):
    """Return whether each clause that follows is seen at a depth or a lesser one."""
    return not unseen(book, depth)


def unseen(book, depth):
    """Return the ascending list of the least clauses that follow and are seen at a greater depth."""
    need_book(book)
    need_depth(depth)
    seen = least_depths(book)
    return [clause for clause in seen if seen[clause] > depth]


def depths_counted(book):
    """Return the list of how many part-fillings whose rest can't be filled have each depth, from 0 on."""
    depths = list(all_depths(book).values())
    return [depths.count(depth) for depth in range(depth_of(book) + 1)]


def closing(book):
    """Return the closing with just the least clauses that follow, with trees of the least order."""
    return {clause: least_tree(rest(book, contraries(clause))) for clause in least_following(book)}


def is_closing(book, depth, value):
    """Return whether any object is a closing of a book for a depth."""
    need_book(book)
    need_depth(depth)
    if not isinstance(value, dict) or not all([is_part(book, clause) for clause in value]):
        return False
    if not all([is_tree_at_most(rest(book, contraries(clause)), depth, value[clause]) for clause in value]):
        return False
    # A clause with a tree follows; so what breaks a least one of those that follow breaks no other one of them.
    return all([clause in value for clause in least_following(book)])


def is_tree_at_most(book, order, value):
    """Return whether any object is a tree of a book of at most an order."""
    return is_tree(book, value) and order_by_form(value) <= order
