"""The errors of the package."""


class CodeError(ValueError):
    """What all errors of this package are."""


class NoTree(CodeError):
    """No program: `place` leads to the first node that is wrong."""

    def __init__(self, place):
        self.place = place


class NoProgram(CodeError):
    """A tree that means nothing: the line, and a word that tells why."""

    def __init__(self, line, why):
        self.line = line
        self.why = why


class NoCode(CodeError):
    """No code: the parameter that is not of its kind."""

    def __init__(self, field):
        self.field = field


class NoTable(CodeError):
    """No table of a code: the first byte that is wrong."""

    def __init__(self, at):
        self.at = at


class NoBytes(CodeError):
    """No bytes of a code: the first byte that is wrong."""

    def __init__(self, at):
        self.at = at


class NoNumber(CodeError):
    """A number that is out of its bounds."""

    def __init__(self, value):
        self.value = value


class NoName(CodeError):
    """A name that cannot be taken."""

    def __init__(self, name):
        self.name = name


class NoRows(CodeError):
    """No rows of instructions: the first one that is wrong."""

    def __init__(self, at):
        self.at = at
