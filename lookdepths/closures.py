"""All clauses that derivations of some width make, and derivations that end, by the tables of part-fillings.

A clause is kept as the part-filling of its literals, a set of clauses as the set of these.
"""

from lookdepths.clauses import bare, opposite
from lookdepths.orders import sets
from lookdepths.tables import first_in, numbers_in


class Closure:
    """The clauses of all derivations of at most a width, or a one-sided one, and what each one is made of."""

    def __init__(self, table, width, is_one_sided):
        self.parts = table
        self.short = table.at_most(width)
        self.is_one_sided = is_one_sided
        self.found = 0
        self.order = []
        self.sources = {}
        for row in table.rows:
            number = table.number_of(row)
            self.found |= 1 << number
            self.order.append(number)
        self.grow()

    def grow(self):
        """Put each clause together with all that were found by then, till there are no new ones."""
        at = 0
        while at < len(self.order):
            number = self.order[at]
            beside = self.partners_of(number)
            new = self.made_beside(self.parts.part_at(number), beside) & ~self.found
            if not self.is_one_sided:
                new &= self.short
            for made in numbers_in(new):
                self.order.append(made)
                self.sources[made] = (number, beside)
            self.found |= new
            at += 1

    def partners_of(self, number):
        """Return the set of the clauses with which one may be put together: a long one with short ones if one-sided."""
        if self.is_one_sided and not self.short >> number & 1:
            return self.found & self.short
        return self.found

    def made_beside(self, clause, beside):
        """Return the set of the clauses that a clause makes with those of a set."""
        made = 0
        for literal in clause:
            other = opposite(literal)
            left = (beside & self.parts.having[other]) >> self.parts.worth[other]
            for more in clause:
                if more != literal:
                    left = self.with_literal(left, more)
            made |= left
        return made

    def with_literal(self, bits, literal):
        """Return what comes of a set with a literal more in each; those with its contrary are left out."""
        free = bits & self.parts.free[literal]
        return bits & self.parts.having[literal] | free << self.parts.worth[literal]

    def source(self, number):
        """Return the numbers of two clauses, found ahead of a made one, of which it is made, and the variable."""
        first, beside = self.sources[number]
        made = self.parts.part_at(number)
        for literal in self.parts.part_at(first):
            others = [more for more in self.parts.part_at(first) if more != literal]
            if all([more in made for more in others]):
                second = self.fitting(made, others, opposite(literal)) & beside
                if second:
                    return (first, first_in(second), bare(literal))
        return None

    def fitting(self, made, others, literal):
        """Return the set of the clauses with a literal that make a clause with some literals that it has."""
        table = self.parts
        bits = table.having[literal]
        for more in made:
            bits &= table.having[more] | table.free[more] if more in others else table.having[more]
        gone = [name for name in table.names if name != bare(literal) and not sets(made, name)]
        for name in gone:
            bits &= table.free[name]
        return bits

    def ending(self):
        """Return a derivation of the empty clause of what was found."""
        needed = {0: True}
        sources = {}
        for number in reversed(self.order):
            if number in needed and number in self.sources:
                sources[number] = self.source(number)
                needed[sources[number][0]] = True
                needed[sources[number][1]] = True
        places = {}
        lines = []
        for number in self.order:
            if number in sources:
                first, second, name = sources[number]
                lines.append((places[first], places[second], name))
            elif number in needed:
                lines.append(self.parts.part_at(number))
            if number in needed:
                places[number] = len(lines) - 1
        return lines


def width_key(table, width, is_one_sided):
    """Return what tells widths apart: no clause has more literals than there are variables."""
    return (min(width, len(table.names)), is_one_sided)


def made_at_most(table, width, is_one_sided):
    """Return the set of all clauses in derivations of at most a width; it is kept."""
    key = width_key(table, width, is_one_sided)
    if key not in table.kept_makes:
        table.kept_makes[key] = Closure(table, key[0], is_one_sided).found
    return table.kept_makes[key]


def ending_at_most(table, width, is_one_sided):
    """Return a derivation of at most a width that ends, None if there is none; it is kept, and not to be changed."""
    key = width_key(table, width, is_one_sided)
    if key not in table.kept_endings:
        closure = Closure(table, key[0], is_one_sided)
        table.kept_makes[key] = closure.found
        table.kept_endings[key] = closure.ending() if is_ended(closure.found) else None
    return table.kept_endings[key]


def is_ended(found):
    """Return whether the empty clause is in a set of clauses."""
    return found & 1 == 1


def least_end(table, is_one_sided):
    """Return the least width of a derivation that ends, for a book that can't be filled."""
    width = 0
    while not is_ended(made_at_most(table, width, is_one_sided)):
        width += 1
    return width
