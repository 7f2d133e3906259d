"""Putting together: derivations and their widths, what they make, and the families that bar them."""

from lookdepths.books import need_book
from lookdepths.clauses import joined_at, meeting_of, need_clause
from lookdepths.closures import ending_at_most, least_end, made_at_most
from lookdepths.derivations import derivation_of_record, lines_of, lines_wanted
from lookdepths.errors import Refused
from lookdepths.families import (
    family_in, greatest_broad, greatest_closed, is_closed, points_by_broad, unanswered,
)
from lookdepths.looks import depth_of_record, need_record
from lookdepths.orders import need_number, order_wanted


def partners(book, clause):
    """Return the ascending list of the clauses of a book with which a clause can be put together."""
    need_book(book)
    need_clause(clause)
    return [row for row in book.clauses() if meeting_of(row, clause) is not None]


def made_with(book, clause):
    """Return the ascending list of the clauses that a clause makes with those of a book."""
    made = [joined_at(row, clause, meeting_of(row, clause)) for row in partners(book, clause)]
    return sorted(set(made))


def is_derivation(book, value):
    """Return whether any object is a derivation from a book."""
    need_book(book)
    return lines_of(book, value) is not None


def clauses_by(book, derivation):
    """Return the list of the clauses of a derivation's lines."""
    need_book(book)
    lines = lines_wanted(book, derivation)
    return [book.marks().literals_in(bits) for bits in lines.made]


def width_of(book, derivation):
    """Return the greatest number of literals of a clause that a derivation makes, 0 if there is none."""
    need_book(book)
    return lines_wanted(book, derivation).width


def one_sided_of(book, derivation):
    """Return the greatest number of literals of the shorter one of two that are put together, 0 if there is none."""
    need_book(book)
    return lines_wanted(book, derivation).one_sided


def all_made(book, width, is_one_sided):
    """Return the ascending list of all clauses in derivations of at most a width, once the arguments are looked at."""
    need_book(book)
    need_number(width)
    return book_parts(book, made_at_most(book.table(), width, is_one_sided))


def makes(book, width):
    """Return the ascending list of all clauses in derivations of at most a width."""
    return all_made(book, width, False)


def one_sided_makes(book, width):
    """Return the ascending list of all clauses in derivations of at most a one-sided width."""
    return all_made(book, width, True)


def book_parts(book, bits):
    """Return the ascending list of the clauses, or part-fillings, of a set."""
    return book.table().parts_in(bits)


def least_width(book):
    """Return the least width of a derivation that ends; Filled if the book can be filled."""
    need_book(book)
    order_wanted(book)
    return least_end(book.table(), False)


def least_one_sided(book):
    """Return the least one-sided width of a derivation that ends; Filled if the book can be filled."""
    need_book(book)
    order_wanted(book)
    return least_end(book.table(), True)


def any_ending(book, width, is_one_sided):
    """Return a derivation of at most a width that ends, once the arguments are looked at; Refused if there is none."""
    need_book(book)
    need_number(width)
    lines = ending_at_most(book.table(), width, is_one_sided)
    if lines is None:
        raise Refused(width)
    return list(lines)


def ending(book, width):
    """Return a derivation of at most a width that ends; Refused with it if there is none."""
    return any_ending(book, width, False)


def one_sided_ending(book, width):
    """Return a derivation of at most a one-sided width that ends; Refused with it if there is none."""
    return any_ending(book, width, True)


def is_ending(book, width, value):
    """Return whether any object is a derivation of at most a width that ends."""
    need_book(book)
    need_number(width)
    lines = lines_of(book, value)
    return lines is not None and lines.is_ended() and lines.width <= width


def is_one_sided_ending(book, width, value):
    """Return whether any object is a derivation of at most a one-sided width that ends."""
    need_book(book)
    need_number(width)
    return ends_at_most(book, width, value)


def ends_at_most(book, width, value):
    """Return whether any object is a derivation of at most a one-sided width that ends, by a width that is a count."""
    lines = lines_of(book, value)
    return lines is not None and lines.is_ended() and lines.one_sided <= width


def is_closed_family(book, width, value):
    """Return whether any object is a closed family for a width."""
    need_book(book)
    need_number(width)
    bits = family_in(book, value)
    return bits is not None and is_closed(book.table(), width, bits)


def closed_family(book, width):
    """Return the greatest closed family for a width; Refused with it if there is none."""
    need_book(book)
    need_number(width)
    bits = greatest_closed(book.table(), width)
    if not bits:
        raise Refused(width)
    return book_parts(book, bits)


def is_broad_family(book, width, value):
    """Return whether any object is a broad family for a width."""
    need_book(book)
    need_number(width)
    bits = family_in(book, value)
    return bits is not None and not unanswered(book.table(), width, bits)


def broad_bits(book, width):
    """Return the set of the greatest broad family for a width; Refused with it if there is none."""
    need_book(book)
    need_number(width)
    bits = greatest_broad(book.table(), width)
    if not bits:
        raise Refused(width)
    return bits


def broad_family(book, width):
    """Return the greatest broad family for a width; Refused with it if there is none."""
    return book_parts(book, broad_bits(book, width))


def ending_by_record(book, record):
    """Return a derivation that ends, of at most the record's least depth as its one-sided width."""
    need_book(book)
    need_record(book, record)
    return derivation_of_record(record)


def is_ending_by_record(book, record, value):
    """Return whether any object is such a derivation for a record."""
    return ends_at_most(book, depth_of_record(book, record), value)


def points_of_broad(book, width):
    """Return the family with points that the greatest broad family for a width makes; Refused if there is none."""
    bits = broad_bits(book, width)
    table = book.table()
    points = points_by_broad(table, width, bits)
    return {part: points[number] for part, number in table.ascending() if number in points}
