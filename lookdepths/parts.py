"""Parts of books: pieces side by side, cores, needed clauses, values of variables, and first places of trees."""

from lookdepths.books import need_apart, need_book, need_books, pieces
from lookdepths.clauses import ascends, is_clause
from lookdepths.errors import InvalidVariable
from lookdepths.looks import orders_below
from lookdepths.orders import order_wanted


def barred_and_depth(book):
    """Return whether a book can't be filled, and its depth."""
    table = book.table()
    return (table.barred & 1 == 1, table.depth())


def depth_of_joined(told):
    """Return the depth of books side by side, of whether each one can't be filled and its depth."""
    barred = [depth for is_barred, depth in told if is_barred]
    if barred:
        return min(barred)
    return max([depth for _, depth in told], default=0)


def depth_beside(one, other):
    """Return the depth of two books side by side, by both depths; Refused if they have a variable in common."""
    need_books(one, other)
    need_apart(one, other)
    return depth_of_joined([barred_and_depth(one), barred_and_depth(other)])


def depth_by_pieces(book):
    """Return the depth of a book by those of its pieces."""
    need_book(book)
    return depth_of_joined([barred_and_depth(piece) for piece in pieces(book)])


def core_bits(book):
    """Return the dictionary from the clauses of a book to the sets of what breaks them and sets all variables."""
    table = book.table()
    return {row: table.bits_breaking(row) & table.bits_filled_up() for row in book.clauses()}


def is_core_of(sets_of, whole, rows):
    """Return whether some clauses break all that set all variables, and without any one of them do not."""
    return joined(sets_of, rows) == whole and not any(
        [joined(sets_of, [other for other in rows if other != row]) == whole for row in rows])


def joined(sets_of, rows):
    """Return the set of what some clauses break."""
    bits = 0
    for row in rows:
        bits |= sets_of[row]
    return bits


def covers_behind(sets_of, left, chosen, barred):
    """Return lists of clauses, some chosen ones and none of the barred ones, that break all that is left.

    The first that is left has to be broken by one of them; those tried ahead of it are left out then, so none of the
    lists comes twice, and each core is among them.
    """
    if not left:
        return [chosen]
    first = left & -left
    found = []
    tried = []
    for row in sets_of:
        if sets_of[row] & first and row not in barred:
            found += covers_behind(sets_of, left & ~sets_of[row], chosen + [row], barred + tried)
            tried.append(row)
    return found


def cores(book):
    """Return the ascending list of all cores of a book."""
    need_book(book)
    sets_of, whole = core_bits(book), book.table().bits_filled_up()
    found = [sorted(rows) for rows in covers_behind(sets_of, whole, [], [])]
    return sorted([rows for rows in found if is_core_of(sets_of, whole, rows)])


def any_core(book):
    """Return a core of a book, None if it can be filled."""
    need_book(book)
    sets_of, whole = core_bits(book), book.table().bits_filled_up()
    rows = book.clauses()
    if joined(sets_of, rows) != whole:
        return None
    for row in book.clauses():
        less = [other for other in rows if other != row]
        if joined(sets_of, less) == whole:
            rows = less
    return rows


def is_core(book, value):
    """Return whether any object is a core of a book."""
    need_book(book)
    if not isinstance(value, list) or not all([is_clause(row) for row in value]) or not ascends(value):
        return False
    sets_of = core_bits(book)
    return all([row in sets_of for row in value]) and is_core_of(sets_of, book.table().bits_filled_up(), value)


def core_depths(book):
    """Return the list of the depths of the books of all cores."""
    return [depth_of_rows(book, rows) for rows in cores(book)]


def depth_of_rows(book, rows):
    """Return the least depth at which looking shows some clauses of a book, None if they can be filled."""
    return book.table().order_by(book.table().broken_by(rows))


def needed_clauses(book):
    """Return the ascending list of the clauses without which a book is deeper or can be filled; Filled if it can be."""
    need_book(book)
    depth = order_wanted(book)
    return [row for row in book.clauses() if is_needed(book, depth, row)]


def is_needed(book, depth, row):
    """Return whether a book without a clause is deeper than a depth, or can be filled."""
    left = depth_of_rows(book, [other for other in book.clauses() if other != row])
    return left is None or left > depth


def depths_of_values(book, variable):
    """Return the tuple of the depths of the rests of a variable without sign, and with it; Filled if it can be."""
    need_book(book)
    if variable not in book.variables():
        raise InvalidVariable(variable)
    order_wanted(book)
    below = orders_below(book)
    return (below[variable], below["-" + variable])


def keeping_literals(book):
    """Return the ascending list of the literals whose rests have the book's depth; Filled if it can be filled."""
    need_book(book)
    depth = order_wanted(book)
    below = orders_below(book)
    return [literal for literal in below if below[literal] == depth]


def splitting_variables(book):
    """Return the ascending list of the variables both of whose rests have less depth; Filled if it can be filled."""
    need_book(book)
    depth = order_wanted(book)
    below = orders_below(book)
    return [name for name in book.variables() if max(below[name], below["-" + name]) < depth]


def first_places(book):
    """Return the ascending list of the variables at roots of trees of least order; Filled if it can be filled."""
    need_book(book)
    depth = order_wanted(book)
    below = orders_below(book)
    return [name for name in book.variables() if min(below[name], below["-" + name]) < depth]
