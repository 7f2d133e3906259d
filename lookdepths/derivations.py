"""Derivations, line by line: what any object that is one makes, and the one that a record of a look makes."""

from lookdepths.clauses import bare, joined_at, opposite
from lookdepths.errors import InvalidDerivation
from lookdepths.marks import many_in
from lookdepths.orders import is_count


class Lines:
    """The clauses of a derivation's lines, as bits, and its widths."""

    def __init__(self, marks):
        self.signs = marks
        self.made = []
        self.counts = []
        self.width = 0
        self.one_sided = 0

    def takes(self, line):
        """Put one line more at the end and return True; return False if it can't stand there."""
        broken = self.signs.row_in(line)
        if broken is not None:
            self.append_bits(self.signs.contraries(broken))
            return True
        name = self.step_name(line)
        if name is None:
            return False
        first, second, _ = line
        high, low = self.signs.sides[name]
        self.append_bits((self.made[first] | self.made[second]) & ~(high | low))
        self.width = max(self.width, self.counts[-1])
        self.one_sided = max(self.one_sided, min(self.counts[first], self.counts[second]))
        return True

    def append_bits(self, bits):
        """Put the clause of a line at the end."""
        self.made.append(bits)
        self.counts.append(many_in(bits))

    def step_name(self, line):
        """Return the variable of any object that puts two lines together, None if it does not."""
        if not isinstance(line, tuple) or len(line) != 3 or not self.has_line(line[0]) or not self.has_line(line[1]):
            return None
        sides = self.signs.sides_of(line[2], 0)
        clashing = self.made[line[0]] & self.signs.contraries(self.made[line[1]])
        return None if sides is None or clashing not in sides else line[2]

    def has_line(self, value):
        """Return whether any object is the position of a line."""
        return is_count(value) and value < len(self.made)

    def is_ended(self):
        """Return whether the last line is the empty clause."""
        return self.made[-1:] == [0]


def lines_of(book, value):
    """Return the lines of any object that is a derivation, None if it is none."""
    if not isinstance(value, list):
        return None
    lines = Lines(book.marks())
    for line in value:
        if not lines.takes(line):
            return None
    return lines


def lines_wanted(book, derivation):
    """Return the lines of a derivation; raise InvalidDerivation unless it is one."""
    lines = lines_of(book, derivation)
    if lines is None:
        raise InvalidDerivation(derivation)
    return lines


def derivation_of_record(record):
    """Return a derivation of the empty clause by a record of a look, as narrow on one side as the record is deep."""
    positions = {}
    lines = []
    put_record(lines, positions, record, {})
    return lines


def put_record(lines, positions, record, ahead):
    """Put lines that lead to a clause of contraries of what is tried on the way, and return this clause.

    `ahead` tells for each literal that is set by a record, not tried, the clause that was put for it: all of its other
    literals are contraries of what is tried, so what is put together clashes at this literal alone.
    """
    known = {literal: ahead[literal] for literal in ahead}
    for literal, within in record[:-1]:
        clause = put_record(lines, positions, within, known)
        if literal not in clause:
            return clause
        known[literal] = clause
    clause = record[-1]
    put_line(lines, positions, clause, clause)
    for broken in record[-1]:
        beside = known.get(opposite(broken))
        if beside is not None:
            line = (positions[beside], positions[clause], bare(broken))
            clause = joined_at(beside, clause, bare(broken))
            put_line(lines, positions, line, clause)
    return clause


def put_line(lines, positions, line, clause):
    """Put a line at the end, with the position of its clause, unless another line has this clause."""
    if clause not in positions:
        positions[clause] = len(lines)
        lines.append(line)
