"""Books made by rules, with numbers that are known, and the papers that these are right."""

from lookdepths.books import known_book, need_book
from lookdepths.clauses import bare, in_order, opposite
from lookdepths.errors import InvalidMake
from lookdepths.opponents import greatest_points
from lookdepths.orders import is_count

LETTERS = "abcdefghijklmnopqrstuvwxyz"
# The least numbers of each kind; of guests there are more than rooms.
LEAST = {"signs": (1,), "ring": (2,), "chain": (1,), "copies": (1, 1), "guests": (1, 1)}
MOST_POINTED = 6


def is_make(value):
    """Return whether any object is a make."""
    if not isinstance(value, tuple) or not value or not isinstance(value[0], str) or value[0] not in LEAST:
        return False
    numbers, least = value[1:], LEAST[value[0]]
    if len(numbers) != len(least) or not all([is_count(number) for number in numbers]):
        return False
    if not all([low <= number <= len(LETTERS) for low, number in zip(least, numbers)]):
        return False
    return value[0] != "guests" or numbers[0] > numbers[1]


def need_make(make):
    """Raise InvalidMake unless it is a make."""
    if not is_make(make):
        raise InvalidMake(make)


def need_told_leaves(make):
    """Raise InvalidMake unless it is a make of which leaves and widths are told."""
    if not is_make(make) or make[0] == "guests":
        raise InvalidMake(make)


def groups_of(make):
    """Return the list of the lists of a make's variables: of a letter, or a guest; otherwise all in one each."""
    many = make[1]
    if make[0] in ("copies", "guests"):
        return [[letter + other for other in LETTERS[:make[2]]] for letter in LETTERS[:many]]
    return [[letter] for letter in LETTERS[:many]]


def pairs_of(names):
    """Return the list of the pairs of a variable and the next one."""
    return list(zip(names, names[1:]))


def alike(one, other):
    """Return the two clauses that say that two literals are both true or both false."""
    return [in_order((opposite(one), other)), in_order((opposite(other), one))]


def rows_of_copies(groups):
    """Return the clauses with each letter, with or without sign, as all its copies, and those that copies are alike."""
    signed = [()]
    for names in groups:
        both = (tuple(names), tuple([opposite(name) for name in names]))
        signed = [ahead + more for ahead in signed for more in both]
    rows = [in_order(literals) for literals in signed]
    if len(groups[0]) > 1:
        rows += [in_order((opposite(one), other)) for names in groups for one, other in pairs_of(names + names[:1])]
    return rows


def rows_of_ring(names):
    """Return the clauses that each variable is like the next one, and the last one unlike the first."""
    rows = [row for one, other in pairs_of(names) for row in alike(one, other)]
    return rows + alike(names[-1], opposite(names[0]))


def rows_of_chain(names):
    """Return the clauses of the first variable, of each one that leads to the next, and against the last."""
    return [(names[0],), (opposite(names[-1]),)] + [in_order((opposite(one), other)) for one, other in pairs_of(names)]


def rows_of_guests(groups):
    """Return the clauses that each guest has a room, and that no two guests have the same."""
    rows = [tuple(names) for names in groups]
    for at, names in enumerate(groups):
        for others in groups[at + 1:]:
            rows += [in_order((opposite(one), opposite(other))) for one, other in zip(names, others)]
    return rows


def rows_of(make):
    """Return the list of the clauses of a make's book."""
    groups = groups_of(make)
    names = [name for group in groups for name in group]
    if make[0] == "ring":
        return rows_of_ring(names)
    if make[0] == "chain":
        return rows_of_chain(names)
    if make[0] == "guests":
        return rows_of_guests(groups)
    return rows_of_copies(groups)


def book_of(make):
    """Return the book of a make."""
    need_make(make)
    return known_book(rows_of(make))


def depth_told(make):
    """Return the depth of a make's book, by its numbers alone."""
    need_make(make)
    if make[0] == "guests":
        return make[2]
    if make[0] in ("ring", "chain"):
        return 2 if make[0] == "ring" else 1
    return make[1] + (1 if times_of(make) > 1 else 0)


def times_of(make):
    """Return how many copies of each letter a make of signs or copies has."""
    return make[2] if make[0] == "copies" else 1


def leaves_told(make):
    """Return the fewest leaves of a tree of a make's book, by its numbers alone."""
    need_told_leaves(make)
    if make[0] == "ring":
        return 2 * make[1]
    if make[0] == "chain":
        return make[1] + 1
    times = times_of(make)
    return (1 << make[1]) * (2 * times - 1) - 2 * (times - 1)


def widths_told(make):
    """Return the least width and the least one-sided width of a derivation that ends, by a make's numbers alone."""
    need_told_leaves(make)
    many, times = make[1], times_of(make)
    if make[0] == "ring":
        return (1, 2) if many == 2 else (2, 2)
    if make[0] == "chain":
        return (0, 1) if many == 1 else (1, 1)
    return (many * times - 1, 2 if many == 1 and times > 1 else many)


def tree_told(make):
    """Return a tree of the told order of a make's book, with the told leaves where these are told."""
    need_make(make)
    groups = groups_of(make)
    names = [name for group in groups for name in group]
    if make[0] == "ring":
        first = names[0]
        turned = [opposite(name) for name in names]
        return (first, tree_of_run(names, in_order(turned[:1] + turned[-1:])), tree_of_run(turned, (first, names[-1])))
    if make[0] == "chain":
        return (names[0], tree_of_run(names, (opposite(names[-1]),)), (names[0],))
    if make[0] == "guests":
        # One guest more than rooms is enough.
        return tree_of_guests(groups[:make[2] + 1], list(range(make[2])))
    return tree_of_copies(groups, [])


def tree_of_run(literals, end):
    """Return a tree where the first literal is set, each one leads to the next, and the last one breaks a clause."""
    tree = end
    for one, other in reversed(pairs_of(literals)):
        tree = with_leaf(other, tree, in_order((opposite(one), other)))
    return tree


def with_leaf(literal, tree, leaf):
    """Return the tree that asks the variable of a literal and goes on where the literal is set."""
    if literal == bare(literal):
        return (literal, tree, leaf)
    return (bare(literal), leaf, tree)


def tree_of_copies(groups, chosen):
    """Return a tree that asks the copies of one letter after the other, all of them where the first one is set."""
    if not groups:
        return in_order([opposite(literal) for literal in chosen])
    names = groups[0]
    turned = [opposite(name) for name in names]
    high = tree_of_run(names, tree_of_copies(groups[1:], chosen + names))
    # A copy that is false makes the one ahead of it false, so they are set from the last one on.
    low = tree_of_run(turned[:1] + turned[:0:-1], tree_of_copies(groups[1:], chosen + turned))
    return (names[0], high, low)


def tree_of_guests(groups, rooms):
    """Return a tree that asks the first guest for each of the rooms that are left; without one its clause is broken."""
    names = groups[0]
    tree = tuple(names)
    for room in reversed(rooms):
        tree = (names[room], tree_behind_guest(groups, rooms, room), tree)
    return tree


def tree_behind_guest(groups, rooms, room):
    """Return a tree behind the first guest's room: no other one may have it, and one room less is left for them."""
    tree = tree_of_guests(groups[1:], [other for other in rooms if other != room])
    for names in reversed(groups[1:]):
        tree = (names[room], in_order((opposite(groups[0][room]), opposite(names[room]))), tree)
    return tree


def points_told(make):
    """Return a family with points whose empty part-filling has the told depth, for at most six variables."""
    if not is_make(make) or len([name for group in groups_of(make) for name in group]) > MOST_POINTED:
        raise InvalidMake(make)
    return greatest_points(known_book(rows_of(make)))


def is_short(book):
    """Return whether each clause of a book has at most two literals."""
    need_book(book)
    return all([len(row) <= 2 for row in book.clauses()])


def is_single(book):
    """Return whether each clause of a book has at most one literal without sign."""
    need_book(book)
    return all([len([literal for literal in row if literal == bare(literal)]) <= 1 for row in book.clauses()])
