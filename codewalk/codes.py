"""Code objects."""

from codewalk.errors import NoCode

GREATEST = 2147483647
DEEPEST = 100

# The byte that no string has.
BARRED = 37


class Code:
    """What the machine runs: instructions, what they name, and the tables of handlers and lines."""

    def __init__(self, argcount, onlycount, stacksize, flags, code, constants, names, slots, kinds, name, path, line,
                 lines, handlers):
        self.argcount = number_of(argcount, "argcount")
        self.onlycount = number_of(onlycount, "onlycount")
        self.stacksize = number_of(stacksize, "stacksize")
        self.flags = number_of(flags, "flags")
        self.code = bytes_of(code, "code")
        # How many codes are inside of one another here.
        self.depth = depth_of(constants)
        self.constants = tuple(constants)
        self.names = strings_of(names, "names")
        self.slots = strings_of(slots, "slots")
        self.kinds = bytes_of(kinds, "kinds")
        if len(self.kinds) != len(self.slots):
            raise NoCode("kinds")
        self.name = string_of(name, "name")
        self.path = string_of(path, "path")
        self.line = number_of(line, "line")
        self.lines = bytes_of(lines, "lines")
        self.handlers = bytes_of(handlers, "handlers")
        # What two codes have alike that are equal.
        self.told = (
            self.argcount, self.onlycount, self.stacksize, self.flags, self.code, told_constants(self.constants),
            self.names, self.slots, self.kinds, self.name, self.path, self.line, self.lines, self.handlers,
        )

    def __eq__(self, other):
        return isinstance(other, Code) and self.told == other.told


def number_of(value, field):
    if not isinstance(value, int) or isinstance(value, bool) or not 0 <= value <= GREATEST:
        raise NoCode(field)
    return value


def bytes_of(row, field):
    if not isinstance(row, (list, tuple)):
        raise NoCode(field)
    for value in row:
        if not isinstance(value, int) or isinstance(value, bool) or not 0 <= value <= 255:
            raise NoCode(field)
    return tuple(row)


def string_of(value, field):
    if not is_string(value):
        raise NoCode(field)
    return value


def strings_of(row, field):
    if not isinstance(row, (list, tuple)):
        raise NoCode(field)
    for value in row:
        if not is_string(value):
            raise NoCode(field)
    return tuple(row)


def is_string(value):
    """Whether an object is a string of the characters that strings of programs have."""
    return isinstance(value, str) and value.isascii() and value.isprintable() and BARRED not in value.encode()


def depth_of(constants):
    """How deep codes are nested in a code with these constants, itself counted. Raises NoCode."""
    if not isinstance(constants, (list, tuple)):
        raise NoCode("constants")
    depth = 1
    # What is still to be looked at, with the number of tuples around it.
    waiting = []
    for value in constants:
        if isinstance(value, Code):
            depth = max(depth, value.depth + 1)
        else:
            waiting.append((value, 0))
    while waiting:
        value, around = waiting.pop()
        if isinstance(value, tuple) and around < DEEPEST:
            waiting.extend([(inner, around + 1) for inner in value])
        elif value is not None and not isinstance(value, int) and not is_string(value):
            raise NoCode("constants")
    if depth > DEEPEST:
        raise NoCode("constants")
    return depth


def told_constants(constants):
    """Constants as a row of kinds and values by turns, so that unlike kinds are never equal."""
    found = []
    waiting = list(reversed(constants))
    while waiting:
        value = waiting.pop()
        if isinstance(value, tuple):
            found.extend(["tuple", len(value)])
            waiting.extend(list(reversed(value)))
        elif isinstance(value, Code):
            found.extend(["code", value.told])
        elif value is None or isinstance(value, bool):
            found.extend(["bool", value])
        else:
            found.extend(["int" if isinstance(value, int) else "str", value])
    return tuple(found)
