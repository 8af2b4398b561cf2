"""The errors of the package."""


class SignoffError(ValueError):
    """The base class of all errors of the package."""


class BadArgument(SignoffError):
    """An argument is out of its range."""


class Refused(SignoffError):
    """The object cannot do this."""


class BadToken(SignoffError):
    """No token can be taken at the index `at` of a text."""

    def __init__(self, at):
        super().__init__(f"no token can be taken at character {at}")
        self.at = at


class BadSyntax(SignoffError):
    """The first `at` tokens can be continued by the grammar, one more cannot."""

    def __init__(self, at):
        super().__init__(f"the grammar does not allow what stands at token {at}")
        self.at = at


class TooDeep(SignoffError):
    """Brackets, an expression, parts or a path of gates go too deep."""


class DeckError(SignoffError):
    """The base class of the errors that tell what is wrong in a circuit or a deck."""


class UnknownName(DeckError):
    """A name stands for nothing."""


class NameClash(DeckError):
    """A name stands for two things."""


class WrongCount(DeckError):
    """There are too many or too few of something."""


class BadRange(DeckError):
    """A range or a number of a circuit is not allowed."""


class BadNet(DeckError):
    """A net stands at a place where it is not allowed."""


class Recursive(DeckError):
    """A module contains a part of itself."""


class Looped(SignoffError):
    """The gates called `names` read one another in a cycle."""

    def __init__(self, names):
        super().__init__(f"{len(names)} gates read one another in a cycle")
        self.names = names


class TooLarge(SignoffError):
    """A module is too large or too deep to be flattened."""


class BadReport(SignoffError):
    """A text is not the written form of a report."""


class BadRecord(SignoffError):
    """A text is not the written form of a record."""
