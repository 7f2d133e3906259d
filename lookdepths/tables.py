"""All part-fillings of a book at once.

A part-filling is kept as a number with a digit of 0, 1 or 2 for each variable: not set, true, false. A set of
part-fillings is kept as one whole number with a bit for each of these, so a few steps tell of all part-fillings what
would want a step for each of them. A clause is kept as the part-filling of its literals. The least order of a tree is
the least depth of a look ([36]), so the same sets tell both. What was told once is kept: books never change.
"""

from lookdepths.clauses import bare, opposite


class Table:
    """The part-fillings of a book: which break a clause (`ends`), and whose rest can't be filled (`barred`)."""

    def __init__(self, rows, names):
        self.rows = rows
        self.names = names
        self.worth = {}
        self.turns = []
        self.free = {}
        self.having = {}
        self.many = 1
        self.mark_literals()
        self.whole = (1 << self.many) - 1
        self.ends = self.broken_by(rows)
        self.barred = self.forced_up(self.ends)
        self.levels = [self.ends]
        self.listed = None
        self.kept_numbers = None
        self.kept_ascending = None
        self.kept_orders = None
        self.kept_leaves = []
        self.kept_makes = {}
        self.kept_endings = {}
        self.kept_gains = {}
        self.kept_trees = {}

    def mark_literals(self):
        """Tell what each literal adds to a number, and which part-fillings have it, or lack its variable."""
        marks = []
        for name in self.names:
            step = self.many
            marks = [bits | bits << step | bits << 2 * step for bits in marks]
            block = (1 << step) - 1
            marks += [block, block << step, block << 2 * step]
            self.worth[name] = step
            self.worth[opposite(name)] = 2 * step
            self.many = 3 * step
        for at, name in enumerate(self.names):
            self.turns.append((self.worth[name], marks[3 * at]))
            self.free[name] = marks[3 * at]
            self.free[opposite(name)] = marks[3 * at]
            self.having[name] = marks[3 * at + 1]
            self.having[opposite(name)] = marks[3 * at + 2]

    def bits_with(self, literals):
        """Return the set of the part-fillings that have all of some literals."""
        bits = self.whole
        for literal in literals:
            bits &= self.having[literal]
        return bits

    def bits_breaking(self, clause):
        """Return the set of the part-fillings that break a clause."""
        return self.bits_with([opposite(literal) for literal in clause])

    def broken_by(self, rows):
        """Return the set of the part-fillings that break one of some clauses."""
        bits = 0
        for row in rows:
            bits |= self.bits_breaking(row)
        return bits

    def bits_filled_up(self):
        """Return the set of the part-fillings that set all variables."""
        bits = self.whole
        for _, free in self.turns:
            bits &= ~free
        return bits

    def forced_up(self, bits):
        """Return a set with each part-filling both of whose rests by some variable are in it."""
        for step, free in self.turns:
            bits |= free & bits >> step & bits >> 2 * step
        return bits

    def above(self, bits):
        """Return the set of the part-fillings that have one of a set within them."""
        for step, free in self.turns:
            less = bits & free
            bits |= less << step | less << 2 * step
        return bits

    def below(self, bits):
        """Return the set of the part-fillings that are within one of a set."""
        for step, free in self.turns:
            bits |= free & (bits >> step | bits >> 2 * step)
        return bits

    def just_above(self, bits):
        """Return the set of the part-fillings that have one literal more than some one of a set."""
        found = 0
        for step, free in self.turns:
            less = bits & free
            found |= less << step | less << 2 * step
        return found

    def just_below(self, bits):
        """Return the set of the part-fillings that have one literal less than some one of a set."""
        found = 0
        for step, free in self.turns:
            found |= free & (bits >> step | bits >> 2 * step)
        return found

    def turned_about(self, bits):
        """Return the set of the contraries of a set."""
        for name, (step, free) in zip(self.names, self.turns):
            high, low = bits & self.having[name], bits & self.having[opposite(name)]
            bits = bits & free | high << step | low >> step
        return bits

    def lengths(self):
        """Return the list of the sets of the part-fillings with each number of literals."""
        exact = [1]
        for step, _ in self.turns:
            more = [bits << step | bits << 2 * step for bits in exact]
            exact = [one | other for one, other in zip(exact + [0], [0] + more)]
        return exact

    def at_most(self, many):
        """Return the set of the part-fillings with at most so many literals."""
        return sum(self.lengths()[:many + 1])

    def raised(self, lesser, start):
        """Return the least set with all of `start` and what has, by some variable, one rest in it, one in `lesser`."""
        sides = [(step, free & lesser >> step, free & lesser >> 2 * step) for step, free in self.turns]
        found = start
        before = None
        while found != before:
            before = found
            for step, high, low in sides:
                found |= high & found >> 2 * step | low & found >> step
        return found

    def level(self, depth):
        """Return the set of the part-fillings whose rest looking at a depth shows."""
        while len(self.levels) <= depth and self.levels[-1] != self.barred:
            self.levels.append(self.raised(self.levels[-1], self.levels[-1]))
        return self.levels[min(depth, len(self.levels) - 1)]

    def depth(self):
        """Return the least depth at which looking shows all rests that can't be filled."""
        while self.levels[-1] != self.barred:
            self.level(len(self.levels))
        return len(self.levels) - 1

    def order_at(self, number):
        """Return the least depth at which looking shows the rest of a part-filling, None if it can be filled."""
        if not self.barred >> number & 1:
            return None
        depth = 0
        while not self.level(depth) >> number & 1:
            depth += 1
        return depth

    def order_by(self, ends):
        """Return the least depth at which looking shows a book by what breaks its clauses, None if it can be filled."""
        if not self.forced_up(ends) & 1:
            return None
        level = ends
        depth = 0
        while not level & 1:
            level = self.raised(level, level)
            depth += 1
        return depth

    def orders(self):
        """Return the list of the least depths of all part-fillings, by number; it is not to be changed."""
        if self.kept_orders is None:
            depth = self.depth()
            self.kept_orders = [None] * self.many
            for number in numbers_in(self.barred):
                self.kept_orders[number] = depth
            for less in reversed(range(depth)):
                for number in numbers_in(self.levels[less]):
                    self.kept_orders[number] = less
        return self.kept_orders

    def number_of(self, literals):
        """Return the number of the part-filling that sets some literals."""
        return sum([self.worth[literal] for literal in literals])

    def part_at(self, number):
        """Return the part-filling of a number."""
        signs = [(name, number // self.worth[name] % 3) for name in self.names]
        # "-" is less than any letter, so those with a sign stand first.
        low = [opposite(name) for name, digit in signs if digit == 2]
        return tuple(low + [name for name, digit in signs if digit == 1])

    def clause_at(self, number):
        """Return the clause of the contraries of the part-filling of a number."""
        return tuple(sorted([opposite(literal) for literal in self.part_at(number)]))

    def ascending(self):
        """Return the ascending list of all part-fillings with their numbers; it is not to be changed."""
        if self.kept_ascending is None:
            pairs = [((), 0)]
            for literal in sorted(self.worth, reverse=True):
                # Those that begin with this literal stand behind the empty one, ahead of those with later ones alone.
                worth, step = self.worth[literal], self.worth[bare(literal)]
                more = [((literal,) + part, number + worth) for part, number in pairs if number // step % 3 == 0]
                pairs = pairs[:1] + more + pairs[1:]
            self.kept_ascending = pairs
        return self.kept_ascending

    def all_parts(self):
        """Return the list of all part-fillings by their numbers; it is not to be changed."""
        if self.listed is None:
            self.listed = [()] * self.many
            for part, number in self.ascending():
                self.listed[number] = part
        return self.listed

    def numbers(self):
        """Return the dictionary from all part-fillings to their numbers; it is not to be changed."""
        if self.kept_numbers is None:
            self.kept_numbers = {part: number for part, number in self.ascending()}
        return self.kept_numbers

    def number_in(self, value):
        """Return the number of any object that is a part-filling, None if it is none."""
        if not isinstance(value, tuple) or not all([isinstance(literal, str) for literal in value]):
            return None
        return self.numbers().get(value)

    def parts_in(self, bits):
        """Return the ascending list of the part-fillings of a set."""
        numbers = numbers_in(bits)
        # The list of all of them is worth its while only for many.
        if self.listed is None and 8 * len(numbers) < self.many:
            return sorted([self.part_at(number) for number in numbers])
        parts = self.all_parts()
        return sorted([parts[number] for number in numbers])

    def clauses_in(self, bits):
        """Return the ascending list of the clauses of the contraries of the part-fillings of a set."""
        return self.parts_in(self.turned_about(bits))


def numbers_in(bits):
    """Return the ascending list of the numbers in a set."""
    text = f"{bits:b}"[::-1]
    found = []
    at = text.find("1")
    while at >= 0:
        found.append(at)
        at = text.find("1", at + 1)
    return found


def first_in(bits):
    """Return the least number in a set that is not empty."""
    return (bits & -bits).bit_length() - 1


def count_in(bits):
    """Return how many numbers are in a set."""
    return f"{bits:b}".count("1")
