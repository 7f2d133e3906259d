"""Lemmas: what clauses that follow gain if they are put in, and rows of them that lead to the empty one."""

from lookdepths.books import is_part, need_book
from lookdepths.clauses import opposite
from lookdepths.depths import contraries, need_clause_of
from lookdepths.errors import Refused
from lookdepths.orders import is_place, need_depth, need_number, order_wanted
from lookdepths.tables import numbers_in
from lookdepths.trees import need_tree


def depth_with(table, ends):
    """Return the depth of a book with clauses more that follow, by all that breaks one of its clauses."""
    level = ends
    depth = 0
    while level != table.barred:
        depth += 1
        # What looking showed without them it shows with them, too.
        level = table.raised(level, level | table.level(depth))
    return depth


def gain_at(table, number):
    """Return by how much the depth is less if the clause of the contraries of a part-filling is put in; it is kept."""
    if number not in table.kept_gains:
        table.kept_gains[number] = table.depth() - depth_with(table, table.ends | table.above(1 << number))
    return table.kept_gains[number]


def gain_of(book, clause):
    """Return by how much the depth of a book is less if a clause that follows is put in; Refused unless it follows."""
    need_book(book)
    need_clause_of(book, clause)
    table = book.table()
    number = table.number_of(contraries(clause))
    if not table.barred >> number & 1:
        raise Refused(clause)
    return gain_at(table, number)


def gains(book, number):
    """Return the dictionary from the clauses of at most so many literals that follow to their gains."""
    need_book(book)
    need_number(number)
    table = book.table()
    found = gaining(table, number)
    following = table.turned_about(table.barred & table.at_most(number))
    for row in book.clauses():
        following &= ~(1 << table.number_of(row))
    return {clause: found.get(at, 0) for clause, at in table.ascending() if following >> at & 1}


def gaining(table, number):
    """Return the dictionary from the numbers of the clauses of at most so many literals that gain to their gains."""
    found = {}
    # A clause within which there is one that gains nothing gains nothing: that one gains as much as both.
    useless = table.ends
    for exact in table.lengths()[:number + 1]:
        for barred in numbers_in(exact & table.barred & ~useless):
            gain = gain_at(table, barred)
            if gain > 0:
                found[table.number_of(table.clause_at(barred))] = gain
            else:
                useless |= table.above(1 << barred)
    return found


def best_lemmas(book, number):
    """Return the ascending list of the clauses with a literal whose gain is greatest, if one gains anything."""
    found = gains(book, number)
    most = max([found[clause] for clause in found if clause != ()], default=0)
    return [clause for clause in found if clause != () and found[clause] == most and most > 0]


class Lemmas:
    """A book with lemmas put in, as the sets of what looking at each depth up to one shows."""

    def __init__(self, table, levels):
        self.parts = table
        self.levels = levels

    def is_shown(self, number):
        """Return whether looking at the depth shows the rest of a part-filling."""
        return self.levels[-1] >> number & 1 == 1

    def with_more(self, number):
        """Return the book with the clause of the contraries of a part-filling put in, too."""
        level = self.levels[0] | self.parts.above(1 << number)
        raised = [level]
        for higher in self.levels[1:]:
            level = self.parts.raised(level, level | higher)
            raised.append(level)
        return Lemmas(self.parts, raised)

    def useful(self):
        """Return the list of the part-fillings of lemmas to put in next, but those that have others within them."""
        shown = self.levels[-1]
        return numbers_in(shown & ~self.parts.just_above(shown) & ~self.levels[0])


def without_lemmas(table, depth):
    """Return a book without lemmas, for a depth: looking at a greater one than it has variables shows no more."""
    return Lemmas(table, [table.level(less) for less in range(min(depth, len(table.names)) + 1)])


def is_row(book, depth, value):
    """Return whether any object is a row of lemmas for a depth."""
    need_book(book)
    need_depth(depth)
    if not isinstance(value, list) or not all([is_part(book, clause) for clause in value]) or value[-1:] != [()]:
        return False
    table = book.table()
    lemmas = without_lemmas(table, depth)
    for clause in value:
        number = table.number_of(contraries(clause))
        if not lemmas.is_shown(number):
            return False
        lemmas = lemmas.with_more(number)
    return True


def row_of_tree(book, tree):
    """Return the row of the clauses of a tree's places, each behind those of its trees, the true side's first."""
    need_book(book)
    need_tree(book, tree)
    return row_behind(tree, ()) if is_place(tree) else [()]


def row_behind(tree, part):
    """Return the list of the clauses of a tree's places behind what is set."""
    if not is_place(tree):
        return []
    name, high, low = tree
    ahead = row_behind(high, part + (name,)) + row_behind(low, part + (opposite(name),))
    return ahead + [contraries(part)]


def fewest_lemmas(book, depth):
    """Return how many clauses the shortest row of lemmas for a depth has; Filled, or Refused, if there is none."""
    return len(shortest_row(book, depth))


def shortest_row(book, depth):
    """Return a row of lemmas for a depth with the fewest clauses; Filled if it can be filled, Refused without any."""
    need_book(book)
    need_depth(depth)
    if order_wanted(book) > 0 and depth == 0:
        raise Refused(depth)
    table = book.table()
    # All rows of one length are looked at ahead of the longer ones; what was put in is told by what it breaks.
    rows = [(without_lemmas(table, depth), [])]
    while not any([lemmas.is_shown(0) for lemmas, _ in rows]):
        rows = longer_rows(rows)
    numbers = [numbers for lemmas, numbers in rows if lemmas.is_shown(0)][0]
    return [table.clause_at(number) for number in numbers] + [()]


def longer_rows(rows):
    """Return the list of the books with one lemma more than some, each with the part-fillings of its lemmas."""
    seen = {}
    longer = []
    for lemmas, numbers in rows:
        for number in lemmas.useful():
            more = lemmas.with_more(number)
            if more.levels[0] not in seen:
                seen[more.levels[0]] = True
                longer.append((more, numbers + [number]))
    return longer
