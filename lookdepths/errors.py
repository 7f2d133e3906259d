"""The errors of the package.

A class with a field keeps in `value` the very argument that was not what its docstring says it has to be.
"""


class LookError(ValueError):
    """What all errors of the package are derived from; each one knows the name of its class."""

    def __init__(self):
        ValueError.__init__(self)
        self.word = self.__class__.__name__


class InvalidLiteral(LookError):
    """The argument has to be a literal, perhaps one of a variable of a book."""

    def __init__(self, value=None):
        LookError.__init__(self)
        self.value = value


class InvalidVariable(LookError):
    """The argument has to be a variable, perhaps one of a book."""

    def __init__(self, value=None):
        LookError.__init__(self)
        self.value = value


class InvalidClause(LookError):
    """The argument has to be a clause, or literals of one."""

    def __init__(self, value=None):
        LookError.__init__(self)
        self.value = value


class InvalidClauses(LookError):
    """The argument has to be a list of clauses."""

    def __init__(self, value=None):
        LookError.__init__(self)
        self.value = value


class InvalidBook(LookError):
    """The argument has to be a book."""

    def __init__(self, value=None):
        LookError.__init__(self)
        self.value = value


class InvalidFilling(LookError):
    """The argument has to be a part-filling of a book."""

    def __init__(self, value=None):
        LookError.__init__(self)
        self.value = value


class InvalidMap(LookError):
    """The argument has to be variables whose signs are turned, or new names."""

    def __init__(self, value=None):
        LookError.__init__(self)
        self.value = value


class InvalidDepth(LookError):
    """The argument has to be a count, as a depth."""

    def __init__(self, value=None):
        LookError.__init__(self)
        self.value = value


class InvalidNumber(LookError):
    """The argument has to be a count, perhaps within bounds."""

    def __init__(self, value=None):
        LookError.__init__(self)
        self.value = value


class InvalidLook(LookError):
    """The argument has to be a record of a look."""

    def __init__(self, value=None):
        LookError.__init__(self)
        self.value = value


class InvalidTree(LookError):
    """The argument has to be a tree."""

    def __init__(self, value=None):
        LookError.__init__(self)
        self.value = value


class InvalidPoints(LookError):
    """The argument has to be a family with points."""

    def __init__(self, value=None):
        LookError.__init__(self)
        self.value = value


class InvalidDerivation(LookError):
    """The argument has to be a derivation."""

    def __init__(self, value=None):
        LookError.__init__(self)
        self.value = value


class InvalidFamily(LookError):
    """The argument has to be a list of part-fillings."""

    def __init__(self, value=None):
        LookError.__init__(self)
        self.value = value


class InvalidMake(LookError):
    """The argument has to be what a told make is made of."""

    def __init__(self, value=None):
        LookError.__init__(self)
        self.value = value


class InvalidDesk(LookError):
    """The argument has to be a desk."""

    def __init__(self, value=None):
        LookError.__init__(self)
        self.value = value


class InvalidSpot(LookError):
    """The argument has to be a spot of a desk."""

    def __init__(self, value=None):
        LookError.__init__(self)
        self.value = value


class InvalidScript(LookError):
    """The argument has to be a script."""

    def __init__(self, value=None):
        LookError.__init__(self)
        self.value = value


class InvalidText(LookError):
    """The argument has to be a text that a writer makes."""

    def __init__(self, value=None):
        LookError.__init__(self)
        self.value = value


class InvalidRecord(LookError):
    """The argument has to be a log of a desk."""

    def __init__(self, value=None):
        LookError.__init__(self)
        self.value = value


class Filled(LookError):
    """The argument has to be a book that can't be filled, or a part-filling of which the rest can't be."""

    def __init__(self, value=None):
        LookError.__init__(self)
        self.value = value


class Refused(LookError):
    """The argument has to be something that can be done as things stand."""

    def __init__(self, value=None):
        LookError.__init__(self)
        self.value = value


class NothingToUndo(LookError):
    """There is no command that can be taken back."""


class NothingToRedo(LookError):
    """There is no command that can be made again."""
