"""Books of clauses, their part-fillings, and what is made of them."""

from lookdepths.clauses import (
    bare, in_order, is_clause, is_literal, is_name_list, is_renaming, is_variable, need_clause, opposite, renamed,
    turned, variables_in,
)
from lookdepths.errors import (
    InvalidBook, InvalidClauses, InvalidFilling, InvalidLiteral, InvalidMap, InvalidVariable, Refused,
)
from lookdepths.marks import Marks
from lookdepths.tables import Table


class Book:
    """Clauses each of which has to be true. A book never changes; what it is asked often is kept beside them."""

    def __init__(self, clauses):
        if not isinstance(clauses, list) or not all([is_clause(clause) for clause in clauses]):
            raise InvalidClauses(clauses)
        self._rows = tuple(sorted(set(clauses)))
        self._names = names_among(clauses)
        self._marks = None
        self._table = None

    def clauses(self):
        """Return the ascending list of the clauses."""
        return list(self._rows)

    def variables(self):
        """Return the ascending list of the variables that stand in the clauses."""
        return list(self._names)

    def marks(self):
        """Return the bits of the literals; they are not to be changed."""
        if self._marks is None:
            self._marks = Marks(self._rows, self._names)
        return self._marks

    def table(self):
        """Return what is told of all part-fillings at once; it is not to be changed."""
        if self._table is None:
            self._table = Table(self._rows, self._names)
        return self._table

    def __eq__(self, other):
        return isinstance(other, Book) and self._rows == other._rows


def names_among(clauses):
    """Return the ascending tuple of the variables that stand in some clauses."""
    return tuple(sorted({bare(literal) for clause in clauses for literal in clause}))


def known_book(rows):
    """Return the book of a list of what surely are clauses, without looking at them again."""
    book = Book([])
    book._rows = tuple(sorted(set(rows)))
    book._names = names_among(rows)
    return book


def need_book(book):
    """Raise InvalidBook unless it is a book."""
    if not isinstance(book, Book):
        raise InvalidBook(book)


def need_books(one, other):
    """Raise InvalidBook for the first one of two that is no book."""
    need_book(one)
    need_book(other)


def need_part(book, part):
    """Raise InvalidFilling unless it is a part-filling of a book."""
    if not is_part(book, part):
        raise InvalidFilling(part)


def need_literal_of(book, literal):
    """Raise InvalidLiteral unless it is a literal of a variable of a book."""
    if not is_literal(literal) or bare(literal) not in book.variables():
        raise InvalidLiteral(literal)


def is_part(book, value):
    """Return whether any object is a part-filling of a book."""
    need_book(book)
    return book.marks().part_in(value) is not None


def breaks(part, clause):
    """Return whether a part-filling has the contraries of all literals of a clause."""
    return all([opposite(literal) in part for literal in clause])


def keeps(part, clause):
    """Return whether a part-filling has one of the literals of a clause."""
    return any([literal in part for literal in clause])


def rest(book, part):
    """Return the book that is left when the literals of a part-filling are set."""
    need_book(book)
    need_part(book, part)
    return rest_of(book, part)


def rest_of(book, part):
    """Return the rest of what surely is a part-filling of a book."""
    if not part:
        return book
    gone = [opposite(literal) for literal in part]
    left = [clause for clause in book.clauses() if not keeps(part, clause)]
    return known_book([tuple([literal for literal in clause if literal not in gone]) for clause in left])


def broken(book, part):
    """Return the ascending list of the clauses that a part-filling breaks."""
    need_book(book)
    need_part(book, part)
    return [clause for clause in book.clauses() if breaks(part, clause)]


def kept(book, part):
    """Return the ascending list of the clauses that a part-filling keeps."""
    need_book(book)
    need_part(book, part)
    return [clause for clause in book.clauses() if keeps(part, clause)]


def is_filling(book, value):
    """Return whether any object is a part-filling that sets all variables and breaks no clause."""
    if not is_part(book, value) or len(value) != len(book.variables()):
        return False
    return not broken(book, value)


def all_parts(book):
    """Return the list of all part-fillings, the shorter ones first, those of one length ascending."""
    need_book(book)
    # Those of one length stay as they ascend.
    return sorted([part for part, _ in book.table().ascending()], key=len)


def set_also(book, part, literal):
    """Return a part-filling with one literal more; Refused if its variable is set."""
    need_book(book)
    need_part(book, part)
    need_literal_of(book, literal)
    if bare(literal) in variables_in(part):
        raise Refused(literal)
    return in_order(part + (literal,))


def shrunk(book):
    """Return the book of the clauses within which there is no other one."""
    need_book(book)
    broken = book.marks().breaking
    return known_book([row for row in book.clauses() if not has_less(list(broken.values()), broken[row])])


def has_less(marks, bits):
    """Return whether some of a list of bits are others than these and within them."""
    return any([less & bits == less and less != bits for less in marks])


def with_clause(book, clause):
    """Return the book with a clause more; Refused if it has it."""
    need_book(book)
    need_clause(clause)
    if clause in book.clauses():
        raise Refused(clause)
    return known_book(book.clauses() + [clause])


def without_clause(book, clause):
    """Return the book without one of its clauses; Refused if it does not have it."""
    need_book(book)
    need_clause(clause)
    if clause not in book.clauses():
        raise Refused(clause)
    return known_book([row for row in book.clauses() if row != clause])


def turned_book(book, variables):
    """Return the book with the signs of an ascending list of its variables turned."""
    need_book(book)
    names = book.variables()
    if not is_name_list(variables) or not all([name in names for name in variables]):
        raise InvalidMap(variables)
    return known_book([turned(clause, variables) for clause in book.clauses()])


def renamed_book(book, sent):
    """Return the book with its variables sent by a dictionary from just these to unlike ones."""
    need_book(book)
    if not is_renaming(sent) or sorted(sent) != book.variables():
        raise InvalidMap(sent)
    return known_book([renamed(clause, sent) for clause in book.clauses()])


def need_apart(one, other):
    """Raise Refused, with the other one, if two books have a variable in common."""
    names = one.variables()
    if any([name in names for name in other.variables()]):
        raise Refused(other)


def side_by_side(one, other):
    """Return the book of the clauses of two books; Refused if they have a variable in common."""
    need_books(one, other)
    need_apart(one, other)
    return known_book(one.clauses() + other.clauses())


def pieces(book):
    """Return the list of the least books that laid side by side are the book, by their least variables."""
    need_book(book)
    groups = []
    for clause in book.clauses():
        near = [group for group in groups if is_linked(group, clause)]
        apart = [group for group in groups if not is_linked(group, clause)]
        names = {bare(literal): True for literal in clause}
        for others, _ in near:
            names.update(others)
        groups = apart + [(names, [clause] + [row for _, rows in near for row in rows])]
    # No variable is in two pieces, so whole lists compare as their least variables do; the empty list is first.
    return sorted([known_book(rows) for _, rows in groups], key=lambda piece: piece.variables())


def is_linked(group, clause):
    """Return whether a clause has one of the variables of a group of clauses."""
    names, _ = group
    return any([bare(literal) in names for literal in clause])


def either(one, other, variable):
    """Return the book of both, the one's clauses with a further variable in them, the other's with its contrary."""
    need_books(one, other)
    if not is_variable(variable) or variable in one.variables() + other.variables():
        raise InvalidVariable(variable)
    need_apart(one, other)
    rows = [in_order(clause + (variable,)) for clause in one.clauses()]
    return known_book(rows + [in_order(clause + (opposite(variable),)) for clause in other.clauses()])
