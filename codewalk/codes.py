"""Code objects."""

from codewalk.errors import NoCode

GREATEST = 2147483647
DEEPEST = 100

# The byte that no string has.
BARRED = 37


class Known:
    """A row of bytes that is known to be right, since this package has made it: it is not looked through once more."""

    def __init__(self, row):
        self.row = row


class Mark:
    """What an object has that is no other object's."""


class Code:
    """What the machine runs: instructions, what they name, and the tables of handlers and lines."""

    def __init__(self, argcount, onlycount, stacksize, flags, code, constants, names, slots, kinds, name, path, line,
                 lines, handlers):
        self.argcount = number_of(argcount, "argcount")
        self.onlycount = number_of(onlycount, "onlycount")
        self.stacksize = number_of(stacksize, "stacksize")
        self.flags = number_of(flags, "flags")
        self.code = bytes_of(code, "code")
        # How many codes are inside of one another here.
        self.depth = depth_of(constants)
        self.constants = tuple(constants)
        self.names = strings_of(names, "names")
        self.slots = strings_of(slots, "slots")
        self.kinds = bytes_of(kinds, "kinds")
        if len(self.kinds) != len(self.slots):
            raise NoCode("kinds")
        self.name = string_of(name, "name")
        self.path = string_of(path, "path")
        self.line = number_of(line, "line")
        self.lines = bytes_of(lines, "lines")
        self.handlers = bytes_of(handlers, "handlers")
        self.identity = Mark()

    def __eq__(self, other):
        return isinstance(other, Code) and are_equal(self, other)

    def parts_alike(self):
        """What two codes have alike that are equal, but for their constants."""
        return (
            self.argcount, self.onlycount, self.stacksize, self.flags, self.code, self.names, self.slots, self.kinds,
            self.name, self.path, self.line, self.lines, self.handlers,
        )


def are_equal(one, other):
    """Whether two codes are equal; those among their constants may be nested deeper than calls."""
    waiting = [(one, other)]
    while waiting:
        one, other = waiting.pop()
        # One object is equal to itself.
        if one.identity == other.identity:
            continue
        if one.parts_alike() != other.parts_alike() or len(one.constants) != len(other.constants):
            return False
        for mine, its in zip(one.constants, other.constants):
            if isinstance(mine, Code) and isinstance(its, Code):
                waiting.append((mine, its))
            elif not is_same_constant(mine, its):
                return False
    return True


def is_same_constant(one, other):
    """Whether two constants, not both of them codes, are of one kind and equal."""
    if isinstance(one, tuple):
        return isinstance(other, tuple) and told_constants(one) == told_constants(other)
    return isinstance(one, bool) == isinstance(other, bool) and one == other


def number_of(value, field):
    if not isinstance(value, int) or value is True or value is False or not 0 <= value <= GREATEST:
        raise NoCode(field)
    return value


def bytes_of(row, field):
    if isinstance(row, Known):
        return tuple(row.row)
    if not isinstance(row, (list, tuple)):
        raise NoCode(field)
    for value in row:
        if not isinstance(value, int) or isinstance(value, bool) or not 0 <= value <= 255:
            raise NoCode(field)
    return tuple(row)


def string_of(value, field):
    if not is_string(value):
        raise NoCode(field)
    return value


def strings_of(row, field):
    if not isinstance(row, (list, tuple)):
        raise NoCode(field)
    for value in row:
        if not is_string(value):
            raise NoCode(field)
    return tuple(row)


def is_string(value):
    """Whether an object is a string of the characters that strings of programs have."""
    if not isinstance(value, str) or not value.isascii():
        return False
    # Most are names, which have no other characters.
    return value.isidentifier() or (value.isprintable() and BARRED not in value.encode())


def depth_of(constants):
    """How deep codes are nested in a code with these constants, itself counted. Raises NoCode."""
    if not isinstance(constants, (list, tuple)):
        raise NoCode("constants")
    depth = 1
    for value in constants:
        if isinstance(value, Code):
            depth = max(depth, value.depth + 1)
        elif not is_constant(value):
            raise NoCode("constants")
    if depth > DEEPEST:
        raise NoCode("constants")
    return depth


def is_constant(value):
    """Whether an object is a constant of trees, or a tuple of such."""
    if value is None or isinstance(value, int):
        return True
    if not isinstance(value, tuple):
        return is_string(value)
    # What is still to be looked at, with the number of tuples around it.
    waiting = [(value, 0)]
    while waiting:
        value, around = waiting.pop()
        if isinstance(value, tuple) and around < DEEPEST:
            waiting.extend([(inner, around + 1) for inner in value])
        elif value is not None and not isinstance(value, int) and not is_string(value):
            return False
    return True


def told_constants(constants):
    """Constants as a row of kinds and values by turns, so that unlike kinds are never equal."""
    found = []
    waiting = list(reversed(constants))
    while waiting:
        value = waiting.pop()
        if isinstance(value, tuple):
            found.extend(["tuple", len(value)])
            waiting.extend(list(reversed(value)))
        elif value is None or isinstance(value, bool):
            found.extend(["bool", value])
        else:
            found.extend(["int" if isinstance(value, int) else "str", value])
    return tuple(found)
