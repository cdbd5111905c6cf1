"""The errors of the package."""


def _own(value):
    """The value with lists and dicts of its own: an error shares no state with what was refused."""
    if isinstance(value, list):
        return [_own(item) for item in value]
    if isinstance(value, tuple):
        return tuple([_own(item) for item in value])
    if isinstance(value, dict):
        return {key: _own(item) for key, item in value.items()}
    return value


class WillError(ValueError):
    """A value that the package refuses."""


class InvalidName(WillError):
    """No name."""


class InvalidAgenda(WillError):
    """No agenda."""


class InvalidPart(WillError):
    """No part of the agenda."""


class InvalidRule(WillError):
    """No rule with the right issues."""


class InvalidSentence(WillError):
    """No sentence."""


class InvalidOperation(WillError):
    """An operation that cannot be done with these values."""


class ParseError(WillError):
    """A text that cannot be read; keeps the index of the line."""

    def __init__(self, index):
        self.index = index


class InvalidNumber(IndexError):
    """No number of the kind that is asked for; keeps the value."""

    def __init__(self, value):
        self.value = _own(value)

    def __str__(self):
        return repr(self.value)


class UnknownName(KeyError):
    """No issue of the agenda, or no kept name; keeps the value."""

    def __init__(self, name):
        self.name = _own(name)

    def __str__(self):
        return repr(self.name)


class TooMany(OverflowError):
    """More cases than the package tries; keeps the limit."""

    def __init__(self, limit):
        self.limit = limit


class NothingToUndo(LookupError):
    """Fewer calls to undo or redo than were asked for; keeps how many were."""

    def __init__(self, many):
        self.many = many


class NoRow(ArithmeticError):
    """An outcome that is no row; keeps the votes."""

    def __init__(self, votes):
        self.votes = votes


class Broken(ArithmeticError):
    """A kept rule that would be none any more; keeps its name and the votes that show it."""

    def __init__(self, which, votes):
        self.which = which
        self.votes = votes
