"""The literals of a book as bits: what is told of single part-fillings, clauses, trees and derivations.

Unlike the tables of all part-fillings this is as quick for books of many variables.
"""

from lookdepths.clauses import opposite


class Marks:
    """The bits of a book's literals, two side by side for each variable, and of what breaks its clauses."""

    def __init__(self, rows, names):
        self.bits = {}
        self.sides = {}
        self.breaking = {}
        self.evens = 0
        for at, name in enumerate(names):
            high = 1 << 2 * at
            self.bits[name] = high
            self.bits[opposite(name)] = 2 * high
            self.sides[name] = (high, 2 * high)
            self.evens |= high
        for row in rows:
            self.breaking[row] = self.contraries(self.bits_of(row))

    def bits_of(self, literals):
        """Return the bits of some literals."""
        found = 0
        for literal in literals:
            found |= self.bits[literal]
        return found

    def contraries(self, bits):
        """Return the bits of the contraries of some literals."""
        return (bits & self.evens) << 1 | bits >> 1 & self.evens

    def literals_in(self, bits):
        """Return the ascending tuple of the literals of some bits."""
        return tuple(sorted([literal for literal in self.bits if self.bits[literal] & bits]))

    def part_in(self, value):
        """Return the bits of any object that is a part-filling, None if it is none."""
        if not isinstance(value, tuple):
            return None
        found = 0
        last = ""
        for literal in value:
            if not isinstance(literal, str) or literal <= last or literal not in self.bits:
                return None
            found |= self.bits[literal]
            last = literal
        return None if found & found >> 1 & self.evens else found

    def row_in(self, value):
        """Return the bits of what breaks any object that is a clause of the book, None if it is none."""
        if not isinstance(value, tuple) or not all([isinstance(literal, str) for literal in value]):
            return None
        return self.breaking.get(value)

    def sides_of(self, value, bits):
        """Return the bits of both literals of any object that is a variable not set yet, None if it is none."""
        if not isinstance(value, str) or value not in self.sides:
            return None
        high, low = self.sides[value]
        return None if (high | low) & bits else (high, low)


def many_in(bits):
    """Return how many literals there are in some bits."""
    return f"{bits:b}".count("1")
