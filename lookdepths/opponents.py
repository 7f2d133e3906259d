"""Opponents: families of part-fillings with points, plays along trees, and papers of both kinds."""

from lookdepths.books import breaks, is_part, need_book
from lookdepths.clauses import in_order, opposite
from lookdepths.errors import Filled, InvalidFilling, InvalidNumber, InvalidPoints, InvalidVariable, Refused
from lookdepths.orders import Parts, best_tree, is_count, is_place, least_orders, order_by_form, sets
from lookdepths.trees import is_tree, need_tree


def are_points(book, value):
    """Return whether any object is a family with points of a book."""
    need_book(book)
    if not isinstance(value, dict) or () not in value:
        return False
    if not all([is_part(book, part) and is_number(value[part]) for part in value]):
        return False
    return not any([ends(book, part) for part in value]) and all([stands(book, value, part) for part in value])


def is_number(value):
    """Return whether any object is a count from 1 on."""
    return is_count(value) and value > 0


def ends(book, part):
    """Return whether a part-filling breaks a clause."""
    return any([breaks(part, clause) for clause in book.clauses()])


def stands(book, family, part):
    """Return whether a part-filling of a family has an answer to each question."""
    names = [name for name in book.variables() if not sets(part, name)]
    return all([is_answered(family, part, name) for name in names])


def points_with(family, part, literal):
    """Return the points of a part-filling with one literal more, 0 if it is not in the family."""
    return family.get(in_order(part + (literal,)), 0)


def is_answered(family, part, name):
    """Return whether one value of a variable keeps the points of a part-filling, or both are one less at most."""
    high, low = points_with(family, part, name), points_with(family, part, opposite(name))
    return max(high, low) >= family[part] or min(high, low) >= family[part] - 1


def need_points(book, family):
    """Raise InvalidPoints unless it is a family with points of a book."""
    if not are_points(book, family):
        raise InvalidPoints(family)


def points_of(book, family):
    """Return the points of the empty part-filling in a family."""
    need_book(book)
    need_points(book, family)
    return family[()]


def need_some(points):
    """Raise InvalidNumber unless it is a count from 1 on."""
    if not is_number(points):
        raise InvalidNumber(points)


def capped(book, points):
    """Return the dictionary from all part-fillings that break no clause to the most points they may have, up to some.

    These are the least depths of their rests; of those that can be filled any number.
    """
    parts = Parts(book)
    orders = least_orders(parts)
    worth = {part: points if order is None else min(order, points) for part, order in zip(parts.all_at(), orders)}
    return {part: worth[part] for part in sorted(worth) if worth[part] > 0}


def family_for(book, points):
    """Return a family with at least so many points; Refused if there is none."""
    need_book(book)
    need_some(points)
    family = capped(book, points)
    if family.get((), 0) < points:
        raise Refused(points)
    return family


def is_family_for(book, points, value):
    """Return whether any object is a family with at least so many points."""
    need_book(book)
    need_some(points)
    return are_points(book, value) and value[()] >= points


def greatest_points(book):
    """Return the family of all part-fillings that may be in one, each with the most points that it may have."""
    need_book(book)
    if least_orders(Parts(book))[0] is None:
        raise Filled(book)
    if () in book.clauses():
        raise Refused(book)
    # No tree of a book needs a greater order than the book has variables.
    return capped(book, len(book.variables()))


def said(book, family, part, variable):
    """Return which value an opponent sets by a family, None where it says: as you like."""
    need_book(book)
    need_points(book, family)
    if not is_part(book, part) or part not in family:
        raise InvalidFilling(part)
    if variable not in book.variables() or sets(part, variable):
        raise InvalidVariable(variable)
    return answer(family, part, variable)


def answer(family, part, name):
    """Return which value of a variable keeps the points of a part-filling, None if neither does."""
    if points_with(family, part, name) >= family[part]:
        return True
    if points_with(family, part, opposite(name)) >= family[part]:
        return False
    return None


def played(book, family, tree):
    """Return the tuple (list, points) of a play of an asker who goes along a tree into the lesser orders."""
    need_book(book)
    need_points(book, family)
    need_tree(book, tree)
    turns = []
    won = 0
    part = ()
    while is_place(tree) and won < family[()]:
        name, high, low = tree
        value = answer(family, part, name)
        chosen = is_high_taken(tree) if value is None else value
        turns.append((name, value is None, chosen))
        won += 1 if value is None else 0
        part = in_order(part + (name if chosen else opposite(name),))
        tree = high if chosen else low
    return (turns, won)


def is_high_taken(tree):
    """Return whether the true side of a place is the one of the lesser order, or as low as the other."""
    return order_by_form(tree[1]) <= order_by_form(tree[2])


def may_go(family, part):
    """Return whether a family is one without one of its part-fillings, with as many points for the empty one."""
    return part != () and all([stands_without(family, part, literal) for literal in part])


def stands_without(family, part, literal):
    """Return whether the part-filling with one literal less, if it is there, does without this one."""
    less = tuple([other for other in part if other != literal])
    points = family.get(less, 0)
    return points <= 1 or points_with(family, less, opposite(literal)) >= points


def weakest_places(book, family):
    """Return the ascending list of the part-fillings that may be taken out of a family alone."""
    need_book(book)
    need_points(book, family)
    return [part for part in sorted(family) if may_go(family, part)]


def thinned(book, family):
    """Return a family of entries of a family, with as many points, from which none may be taken out alone."""
    need_book(book)
    need_points(book, family)
    left = {part: family[part] for part in sorted(family)}
    # Whether one may go hangs on shorter ones and on those of its length, and these, once gone, only bar others.
    for part in sorted(family, key=lambda part: (len(part), part)):
        if may_go(left, part):
            del left[part]
    return left


def is_thinned(book, family, value):
    """Return whether any object is such a family of entries of a family from which none may be taken out alone."""
    need_book(book)
    need_points(book, family)
    if not are_points(book, value):
        return False
    return all([value[part] == family.get(part, 0) and not may_go(value, part) for part in value])


def paper_for(book, points):
    """Return a family with at least so many points, if there is one, otherwise a tree of an order below them."""
    need_book(book)
    need_some(points)
    family = capped(book, points)
    if family.get((), 0) >= points:
        return ("family", family)
    return ("tree", best_tree(book))


def is_paper_for(book, points, value):
    """Return whether any object is such a paper."""
    need_book(book)
    need_some(points)
    if not isinstance(value, tuple) or len(value) != 2:
        return False
    if value[0] == "family":
        return is_family_for(book, points, value[1])
    return value[0] == "tree" and is_tree(book, value[1]) and order_by_form(value[1]) < points
