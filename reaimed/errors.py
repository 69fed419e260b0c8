"""The errors of the program."""


class AimError(ValueError):
    """The base class of all errors of the program."""


class TextError(AimError):
    """A text is wrong at a row and a column, both counted from 1."""

    def __init__(self, row, column):
        super().__init__(f"row {row}, column {column}")
        self.row = row
        self.column = column


class BadCharacter(TextError):
    """A character can begin no token."""


class BadNumber(TextError):
    """What begins with a digit is not a number."""


class Unexpected(TextError):
    """The grammar does not allow a token at its place."""


class ScopeError(AimError):
    """A name of a program is used wrongly."""

    def __init__(self, name):
        super().__init__(f"name {name}")
        self.name = name


class DoubleName(ScopeError):
    """A name is given twice."""


class UnknownName(ScopeError):
    """A name that is no local is assigned."""


class CodeError(AimError):
    """Plain code or its listing is wrong."""


class BadCode(CodeError):
    """The code with this index is wrong, or with -1 the whole."""

    def __init__(self, index):
        super().__init__(f"code {index}")
        self.index = index


class BadListing(CodeError):
    """This row of a listing, counted from 1, is wrong."""

    def __init__(self, row):
        super().__init__(f"row {row}")
        self.row = row
