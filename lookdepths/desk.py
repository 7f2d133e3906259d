"""A desk: spots with a book and what is set there, commands that can be undone, and logs of them."""

from lookdepths.books import need_book, need_literal_of, rest_of, side_by_side, with_clause, without_clause
from lookdepths.clauses import bare, in_order
from lookdepths.errors import (
    InvalidDepth, InvalidDesk, InvalidRecord, InvalidSpot, NothingToRedo, NothingToUndo, Refused,
)
from lookdepths.looks import forced, is_seen
from lookdepths.orders import is_count, least_order, sets

MOST_DEPTH = 8
# How many things stand behind each word of a log.
SIZES = {"put": 1, "take": 1, "choose": 2, "back": 2, "force": 2, "add": 2, "drop": 2, "lay": 2}


class Place:
    """What is at a spot: a book, what is set there, and the rest. It never changes."""

    def __init__(self, book, part):
        self.book = book
        self.part = part
        self.left = rest_of(book, part)


class Trial:
    """A block behind which a desk is as it was when the block was entered."""

    def __init__(self, desk):
        self.desk = desk
        self.places = desk.places
        self.puts = desk.puts
        self.done = desk.done
        self.undone = desk.undone

    def __enter__(self):
        self.places = self.desk.places
        self.puts = self.desk.puts
        self.done = self.desk.done
        self.undone = self.desk.undone
        return self.desk

    def __exit__(self, kind, value, trace):
        desk = self.desk
        desk.places = self.places
        desk.puts = self.puts
        desk.done = self.done
        desk.undone = self.undone


class Desk:
    """Spots with books, what is set there, and all commands that are not taken back.

    The lists and dictionaries that it holds are replaced, never changed, so blocks and copies keep them as they are.
    `done` and `undone` hold each command with the places and the number of puts on the other side of it.
    """

    def __init__(self):
        self.places = {}
        self.puts = 0
        self.done = []
        self.undone = []

    def put(self, book):
        """Put a book, with nothing set, at the least count that no spot has had, and return this count."""
        need_book(book)
        spot = self.puts
        self.puts = spot + 1
        self.done = self.done + [(("put", book), self.places, spot)]
        self.undone = []
        self.places = with_place(self.places, spot, Place(book, ()))
        return spot

    def take(self, spot):
        """Take a spot away."""
        self.place_at(spot)
        self.make(("take", spot), without_place(self.places, spot))

    def spots(self):
        """Return the ascending list of the spots."""
        return sorted(self.places)

    def book_there(self, spot):
        """Return the book at a spot."""
        return self.place_at(spot).book

    def set_there(self, spot):
        """Return what is set at a spot."""
        return self.place_at(spot).part

    def rest_there(self, spot):
        """Return the rest at a spot."""
        return self.place_at(spot).left

    def choose(self, spot, literal):
        """Set one literal more at a spot; Refused with it if its variable is set."""
        place = self.place_at(spot)
        need_literal_of(place.book, literal)
        if sets(place.part, bare(literal)):
            raise Refused(literal)
        self.change(("choose", spot, literal), place.book, in_order(place.part + (literal,)))

    def back(self, spot, literal):
        """Take a literal out of what is set at a spot; Refused with it unless it is set."""
        place = self.place_at(spot)
        need_literal_of(place.book, literal)
        if literal not in place.part:
            raise Refused(literal)
        self.change(("back", spot, literal), place.book, tuple([other for other in place.part if other != literal]))

    def force(self, spot, depth):
        """Set all literals that looking forces at a spot and return them; Refused with the depth if there is none."""
        place = self.place_at(spot)
        need_desk_depth(depth)
        literals = () if is_seen(least_order(place.left), depth) else forced(place.left, depth)
        if not literals:
            raise Refused(depth)
        self.change(("force", spot, depth), place.book, in_order(place.part + literals))
        return list(literals)

    def add(self, spot, clause):
        """Put a clause into the book at a spot; Refused with it if it is there."""
        place = self.place_at(spot)
        self.change(("add", spot, clause), with_clause(place.book, clause), place.part)

    def drop(self, spot, clause):
        """Take a clause out of the book at a spot; Refused with it unless it is there and no set variable goes."""
        place = self.place_at(spot)
        book = without_clause(place.book, clause)
        names = book.variables()
        if not all([bare(literal) in names for literal in place.part]):
            raise Refused(clause)
        self.change(("drop", spot, clause), book, place.part)

    def lay(self, one, other):
        """Put both books, with what is set in either, at the one spot and take the other away; Refused with it."""
        first, second = self.place_at(one), self.place_at(other)
        if other == one:
            raise InvalidSpot(other)
        names = first.book.variables()
        if any([name in names for name in second.book.variables()]):
            raise Refused(other)
        laid = Place(side_by_side(first.book, second.book), in_order(first.part + second.part))
        self.make(("lay", one, other), with_place(without_place(self.places, other), one, laid))

    def is_shown(self, spot, depth):
        """Return whether looking at a depth shows the rest at a spot."""
        place = self.place_at(spot)
        need_desk_depth(depth)
        return is_seen(least_order(place.left), depth)

    def least_there(self, spot):
        """Return the least depth at which looking shows the rest at a spot, None if it can be filled."""
        return least_order(self.place_at(spot).left)

    def shown_spots(self, depth):
        """Return the ascending list of the spots whose rest looking at a depth shows."""
        need_desk_depth(depth)
        return [spot for spot in self.spots() if is_seen(self.least_there(spot), depth)]

    def alike_spots(self, spot):
        """Return the ascending list of the other spots with an equal rest."""
        left = self.place_at(spot).left
        return [other for other in self.spots() if other != spot and self.places[other].left == left]

    def trial(self):
        """Return a block behind which the desk is as it was when the block was entered."""
        return Trial(self)

    def attempt(self, action):
        """Call a function with the desk in a block and return what it returns."""
        with self.trial() as held:
            return action(held)

    def copy(self):
        """Return an independent desk that is the same in all that it tells, and in no block."""
        other = Desk()
        other.places = self.places
        other.puts = self.puts
        other.done = self.done
        other.undone = self.undone
        return other

    def undo(self):
        """Take back the last command."""
        if not self.done:
            raise NothingToUndo()
        command, places, puts = self.done[-1]
        self.undone = self.undone + [(command, self.places, self.puts)]
        self.done = self.done[:-1]
        self.places = places
        self.puts = puts

    def redo(self):
        """Make the command that was taken back last again."""
        if not self.undone:
            raise NothingToRedo()
        command, places, puts = self.undone[-1]
        self.done = self.done + [(command, self.places, self.puts)]
        self.undone = self.undone[:-1]
        self.places = places
        self.puts = puts

    def log(self):
        """Return the list of the commands that are not taken back, the eldest first."""
        return [command for command, _, _ in self.done]

    def place_at(self, spot):
        """Return what is at a spot; raise InvalidSpot unless it is one."""
        if not is_count(spot) or spot not in self.places:
            raise InvalidSpot(spot)
        return self.places[spot]

    def make(self, command, places):
        """Keep a command and what is at the spots behind it."""
        self.done = self.done + [(command, self.places, self.puts)]
        self.undone = []
        self.places = places

    def change(self, command, book, part):
        """Keep a command that changes what is at its spot."""
        self.make(command, with_place(self.places, command[1], Place(book, part)))


def with_place(places, spot, place):
    """Return what is at the spots, with another place at one of them."""
    changed = {other: places[other] for other in places}
    changed[spot] = place
    return changed


def without_place(places, spot):
    """Return what is at the spots, without one of them."""
    return {other: places[other] for other in places if other != spot}


def need_desk_depth(depth):
    """Raise InvalidDepth unless it is a count of at most 8."""
    if not is_count(depth) or depth > MOST_DEPTH:
        raise InvalidDepth(depth)


def need_desk(desk):
    """Raise InvalidDesk unless it is a desk."""
    if not isinstance(desk, Desk):
        raise InvalidDesk(desk)


def is_log(value):
    """Return whether any object is a list of tuples of a word of a log and as many things behind it."""
    return isinstance(value, list) and all([is_log_entry(entry) for entry in value])


def is_log_entry(value):
    """Return whether any object is a tuple of a word of a log and as many things behind it."""
    if not isinstance(value, tuple) or not value or not isinstance(value[0], str) or value[0] not in SIZES:
        return False
    return len(value) == SIZES[value[0]] + 1


def called_with_one(desk, word, thing):
    """Call a method with one argument by its name."""
    match word:
        case "put":
            return desk.put(thing)
        case "take":
            return desk.take(thing)
        case "set_there":
            return desk.set_there(thing)
        case "least_there":
            return desk.least_there(thing)
        case "alike_spots":
            return desk.alike_spots(thing)
        case _:
            return desk.shown_spots(thing)


def called_with_two(desk, word, one, other):
    """Call a method with two arguments by its name."""
    match word:
        case "choose":
            return desk.choose(one, other)
        case "back":
            return desk.back(one, other)
        case "force":
            return desk.force(one, other)
        case "add":
            return desk.add(one, other)
        case "drop":
            return desk.drop(one, other)
        case "lay":
            return desk.lay(one, other)
        case _:
            return desk.is_shown(one, other)


def called(desk, command):
    """Call the method of a command's word with the things behind it."""
    if len(command) == 1:
        return desk.undo() if command[0] == "undo" else desk.redo()
    if len(command) == 2:
        return called_with_one(desk, command[0], command[1])
    return called_with_two(desk, command[0], command[1], command[2])


def replayed(desk, log):
    """Return a copy of a desk on which the commands of a log are then made."""
    need_desk(desk)
    if not is_log(log):
        raise InvalidRecord(log)
    other = desk.copy()
    for command in log:
        called(other, command)
    return other
