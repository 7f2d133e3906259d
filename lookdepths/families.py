"""Closed and broad families of part-fillings, as sets of the numbers of a table."""

from lookdepths.clauses import ascends
from lookdepths.closures import made_at_most
from lookdepths.tables import first_in, numbers_in


def family_in(book, value):
    """Return the set of any object that is such a list that breaks no clause, None if it is none."""
    if not isinstance(value, list) or not value:
        return None
    numbers = [book.table().number_in(part) for part in value]
    if None in numbers or not ascends(value):
        return None
    bits = sum([1 << number for number in numbers])
    return None if bits & book.table().ends else bits


def is_closed(table, width, bits):
    """Return whether a set is a closed family for a width."""
    short = table.at_most(width)
    for _, free in table.turns:
        # The parts that are within one of the set that sets the variable answer for it.
        held = table.below(bits & ~free)
        if bits & table.above(table.below(bits) & short & ~held):
            return False
    return True


def greatest_closed(table, width):
    """Return the greatest closed family for a width, an empty set if there is none."""
    return table.whole & ~table.above(table.turned_about(made_at_most(table, width, False)))


def unanswered(table, width, bits):
    """Return the set of those of a set that bar it from being a broad family for a width."""
    short = table.at_most(width - 1)
    held = table.below(bits)
    found = 0
    for step, free in table.turns:
        lacking = held & free & short & ~(held >> step & held >> 2 * step)
        found |= bits & free & table.above(lacking)
    return found


def greatest_broad(table, width):
    """Return the greatest broad family for a width, an empty set if there is none."""
    bits = table.whole & ~table.ends
    gone = unanswered(table, width, bits)
    while gone:
        bits &= ~gone
        gone = unanswered(table, width, bits)
    return bits


def points_by_broad(table, width, bits):
    """Return the dictionary from the numbers of part-fillings to the points that a broad family makes for them."""
    lengths = table.lengths()
    within = table.below(bits)
    found = {}
    for less, exact in enumerate(lengths[:width + 1]):
        for number in numbers_in(exact & within):
            held = bits & table.above(1 << number)
            shortest = first_in([held & many for many in lengths if held & many][0])
            for part in numbers_in(table.below(1 << shortest)):
                found.setdefault(part, width + 1 - less)
    return found
