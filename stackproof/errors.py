"""The refusals, each kind of them a class of its own."""


class StackError(ValueError):
    """Any refusal."""


class Empty(StackError):
    """There are fewer values, or kinds, than a row wants."""


class WrongKind(StackError):
    """A value, or a kind, is not of the kind that a row takes."""


class NoBlock(StackError):
    """The program has no block of that name."""


class Apart(StackError):
    """The two blocks of an if do not tell the same ins and outs."""


class Dry(StackError):
    """The fuel of a run is used up before the run is over."""
