"""Opponents: families of part-fillings with points, plays along trees, and papers of both kinds."""

from lookdepths.books import need_book
from lookdepths.clauses import in_order, opposite
from lookdepths.errors import Filled, InvalidFilling, InvalidNumber, InvalidPoints, InvalidVariable, Refused
from lookdepths.orders import best_tree, is_count, is_place, order_by_form, sets
from lookdepths.trees import need_tree, order_if_tree


def are_points(book, value):
    """Return whether any object is a family with points of a book."""
    need_book(book)
    return by_points(book, value) is not None


def is_number(value):
    """Return whether any object is a count from 1 on."""
    return is_count(value) and value > 0


def by_points(book, value):
    """Return the dictionary from points to the sets that have them in a family, None for an object that is none."""
    if not isinstance(value, dict) or () not in value:
        return None
    table = book.table()
    groups = grouped(table, value)
    if groups is None:
        return None
    above = 0
    for points in sorted(groups, reverse=True):
        above |= groups[points]
        if points > 1 and not is_held(table, groups[points], above, above | groups.get(points - 1, 0)):
            return None
    return None if above & table.ends else groups


def grouped(table, value):
    """Return the dictionary from points to the sets that have them in a dictionary, None if it has other entries."""
    numbers = table.numbers()
    groups = {}
    for part in value:
        number, points = numbers.get(part), value[part]
        if number is None or not is_number(points):
            return None
        groups[points] = groups.get(points, 0) | 1 << number
    return groups


def is_held(table, members, above, nearly):
    """Return whether each of some members has an answer to each question.

    `above` are those with at least as many points as these, `nearly` those with at least one less.
    """
    for step, free in table.turns:
        both = nearly >> step & nearly >> 2 * step
        if members & free & ~(above >> step | above >> 2 * step | both):
            return False
    return True


def points_with(family, part, literal):
    """Return the points of a part-filling with one literal more, 0 if it is not in the family."""
    return family.get(in_order(part + (literal,)), 0)


def need_points(book, family):
    """Return the dictionary from points to the sets that have them; InvalidPoints unless it is a family with points."""
    groups = by_points(book, family)
    if groups is None:
        raise InvalidPoints(family)
    return groups


def points_of(book, family):
    """Return the points of the empty part-filling in a family."""
    need_book(book)
    need_points(book, family)
    return family[()]


def need_some(points):
    """Raise InvalidNumber unless it is a count from 1 on."""
    if not is_number(points):
        raise InvalidNumber(points)


def capped(book, points):
    """Return the dictionary from all part-fillings that break no clause to the most points they may have, up to some.

    These are the least depths of their rests; of those that can be filled any number.
    """
    table = book.table()
    worth = [points if order is None else min(order, points) for order in table.orders()]
    return {part: worth[number] for part, number in table.ascending() if worth[number] > 0}


def family_for(book, points):
    """Return a family with at least so many points; Refused if there is none."""
    need_book(book)
    need_some(points)
    if not may_have(book.table(), points):
        raise Refused(points)
    return capped(book, points)


def may_have(table, points):
    """Return whether there is a family with at least so many points."""
    order = table.order_at(0)
    return order is None or order >= points


def is_family_for(book, points, value):
    """Return whether any object is a family with at least so many points."""
    need_book(book)
    need_some(points)
    return are_points(book, value) and value[()] >= points


def greatest_points(book):
    """Return the family of all part-fillings that may be in one, each with the most points that it may have."""
    need_book(book)
    order = book.table().order_at(0)
    if order is None:
        raise Filled(book)
    if order == 0:
        raise Refused(book)
    return capped(book, order)


def said(book, family, part, variable):
    """Return which value an opponent sets by a family, None where it says: as you like."""
    need_book(book)
    need_points(book, family)
    if book.table().number_in(part) is None or part not in family:
        raise InvalidFilling(part)
    if variable not in book.variables() or sets(part, variable):
        raise InvalidVariable(variable)
    return answer(family, part, variable)


def answer(family, part, name):
    """Return which value of a variable keeps the points of a part-filling, None if neither does."""
    if points_with(family, part, name) >= family[part]:
        return True
    if points_with(family, part, opposite(name)) >= family[part]:
        return False
    return None


def played(book, family, tree):
    """Return the tuple (list, points) of a play of an asker who goes along a tree into the lesser orders."""
    need_book(book)
    need_points(book, family)
    need_tree(book, tree)
    turns = []
    won = 0
    part = ()
    while is_place(tree) and won < family[()]:
        name, high, low = tree
        value = answer(family, part, name)
        chosen = is_high_taken(tree) if value is None else value
        turns.append((name, value is None, chosen))
        won += 1 if value is None else 0
        part = in_order(part + (name if chosen else opposite(name),))
        tree = high if chosen else low
    return (turns, won)


def is_high_taken(tree):
    """Return whether the true side of a place is the one of the lesser order, or as low as the other."""
    return order_by_form(tree[1]) <= order_by_form(tree[2])


def bound(table, groups):
    """Return the set of the part-fillings without which some other one of a family, told by points, is not held.

    One value of a variable that keeps the points wants no other one; without it both would have to be there.
    """
    found = 1
    above = 0
    for points in sorted([points for points in groups if points > 1], reverse=True):
        above |= groups[points]
        for step, free in table.turns:
            asked = groups[points] & free
            found |= (asked & ~(above >> 2 * step)) << step | (asked & ~(above >> step)) << 2 * step
    return found


def weakest_places(book, family):
    """Return the ascending list of the part-fillings that may be taken out of a family alone."""
    need_book(book)
    groups = need_points(book, family)
    held = bound(book.table(), groups)
    return book.table().parts_in(sum(list(groups.values())) & ~held)


def thinned(book, family):
    """Return a family of entries of a family, with as many points, from which none may be taken out alone."""
    need_book(book)
    need_points(book, family)
    table = book.table()
    numbers = table.numbers()
    left = {numbers[part]: family[part] for part in family}
    # Whether one may go hangs on shorter ones and on those of its length, and these, once gone, only bar others.
    for part in sorted(family, key=lambda part: (len(part), part)):
        if part != () and may_go(table, left, part):
            del left[numbers[part]]
    return {part: family[part] for part in sorted(family) if numbers[part] in left}


def may_go(table, left, part):
    """Return whether those that are left, points by number, are held without a part-filling."""
    number, worth = table.number_of(part), table.worth
    return all([stands_without(left, number - worth[literal], worth[opposite(literal)]) for literal in part])


def stands_without(left, number, other):
    """Return whether the part-filling of a number, if it is left, keeps its points by the value of another literal."""
    points = left.get(number, 0)
    return points <= 1 or left.get(number + other, 0) >= points


def is_thinned(book, family, value):
    """Return whether any object is such a family of entries of a family from which none may be taken out alone."""
    need_book(book)
    need_points(book, family)
    groups = by_points(book, value)
    if groups is None or not all([value[part] == family.get(part) for part in value]):
        return False
    return sum(list(groups.values())) & ~bound(book.table(), groups) == 0


def paper_for(book, points):
    """Return a family with at least so many points, if there is one, otherwise a tree of an order below them."""
    need_book(book)
    need_some(points)
    if may_have(book.table(), points):
        return ("family", capped(book, points))
    return ("tree", best_tree(book))


def is_paper_for(book, points, value):
    """Return whether any object is such a paper."""
    need_book(book)
    need_some(points)
    if not isinstance(value, tuple) or len(value) != 2:
        return False
    if value[0] == "family":
        return is_family_for(book, points, value[1])
    return value[0] == "tree" and is_tree_below(book, points, value[1])


def is_tree_below(book, points, value):
    """Return whether any object is a tree of an order below a number."""
    order = order_if_tree(book, value)
    return order is not None and order < points
