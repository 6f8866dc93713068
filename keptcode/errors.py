"""The errors of the package."""


class CodeError(ValueError):
    """The base of all errors of the package."""


class ParseError(CodeError):
    """A text does not describe a codebook."""

    def __init__(self, line):
        super().__init__(f"no codebook starts with the lines up to line {line}")
        self.line = line


class DecodeError(CodeError):
    """A string of digits cannot be decoded."""

    def __init__(self, position):
        super().__init__(f"no codeword starts at position {position}")
        self.position = position


class NoRoom(CodeError):
    """A level of the code tree fails."""

    def __init__(self, level):
        super().__init__(f"level {level} fails")
        self.level = level


class NoPlan(CodeError):
    """There is no plan."""

    def __init__(self, level):
        super().__init__(f"there is no plan, as level {level} fails")
        self.level = level


class InvalidCodebook(CodeError):
    """The arguments do not form a codebook."""


class UnknownName(CodeError):
    """There is no such name."""


class InvalidLength(CodeError):
    """A length is not an integer from 1 to the depth."""


class InvalidRequest(CodeError):
    """Something is not a request for the codebook."""


class InvalidKept(CodeError):
    """Something is not a list or tuple of names that can be kept."""


class InvalidPrices(CodeError):
    """Something is not a dict from names to prices."""


class InvalidPlan(CodeError):
    """Something is not a plan."""


class TooLarge(CodeError):
    """More names are priced than can be handled."""


class InvalidExchange(CodeError):
    """Something is not an exchange for the codebook."""


class InvalidPair(CodeError):
    """Two codebooks differ where they must agree."""


class UnknownVersion(CodeError):
    """There is no such version."""


class InvalidMessage(CodeError):
    """Something is not a message."""


class InvalidName(CodeError):
    """Something does not have the form of a name."""


class DuplicateName(CodeError):
    """A name is taken."""


class NotFree(CodeError):
    """A string is not a free node."""


class NotReserved(CodeError):
    """A string is not reserved."""


class UnknownMark(CodeError):
    """There is no such mark."""


class InvalidCommand(CodeError):
    """Something is not a command of a batch."""


class InvalidLine(CodeError):
    """Something is not a line of the shell."""
