"""The numbers that the arguments of rows become, and the tables of a code that they are indexes of."""

from codewalk.codes import told_constants
from codewalk.encoding import COMPARISONS, OPERATORS, TRUTH


class Pool:
    """The tables of a code: its constants and names so far, in the order of their numbers, and its locals."""

    def __init__(self, slots, codes):
        self.slots = slots
        self.codes = codes
        self.constants = []
        self.places = {}
        self.names = {}

    def constant(self, value):
        """The number of a constant; unlike kinds are never the same."""
        if value is None or isinstance(value, str):
            return self.placed(value, value)
        if isinstance(value, tuple):
            return self.placed(told_constants((value,)), value)
        return self.placed(("bool" if isinstance(value, bool) else "int", value), value)

    def loaded_code(self, number):
        return self.placed(("code", number), self.codes[number])

    def placed(self, key, value):
        """The number of the constant that has this key."""
        found = self.places.get(key)
        if found is None:
            found = len(self.constants)
            self.places[key] = found
            self.constants.append(value)
        return found

    def number_of(self, name):
        """The number of a name."""
        found = self.names.get(name)
        if found is None:
            found = len(self.names)
            self.names[name] = found
        return found


def of_constant(pool, value):
    return pool.constant(value)


def of_code(pool, number):
    return pool.loaded_code(number)


def of_name(pool, name):
    return pool.number_of(name)


def of_name_with_more(pool, argument):
    return 2 * pool.number_of(argument[0]) + (1 if argument[1] else 0)


def of_local(pool, name):
    return pool.slots[name]


def of_locals(pool, names):
    return 16 * pool.slots[names[0]] + pool.slots[names[1]]


def of_operator(_, op):
    return OPERATORS[op]


def of_comparison(_, argument):
    return COMPARISONS[argument[0]] + (TRUTH if argument[1] else 0)


def of_unpacking(_, argument):
    return argument[0] + 256 * argument[1]


# What makes a number of the argument, for the words whose argument is none.
ACTIONS = {
    "LOAD_CONST": of_constant, "RETURN_CONST": of_constant, "LOAD_CODE": of_code, "DELETE_ATTR": of_name,
    "DELETE_GLOBAL": of_name, "DELETE_NAME": of_name, "LOAD_NAME": of_name, "STORE_ATTR": of_name,
    "STORE_GLOBAL": of_name, "STORE_NAME": of_name, "LOAD_ATTR": of_name_with_more, "LOAD_GLOBAL": of_name_with_more,
    "DELETE_DEREF": of_local, "DELETE_FAST": of_local, "LOAD_CLOSURE": of_local, "LOAD_DEREF": of_local,
    "LOAD_FAST": of_local, "LOAD_FAST_CHECK": of_local, "LOAD_FROM_DICT_OR_DEREF": of_local, "MAKE_CELL": of_local,
    "STORE_DEREF": of_local, "STORE_FAST": of_local, "LOAD_FAST_LOAD_FAST": of_locals,
    "STORE_FAST_LOAD_FAST": of_locals, "STORE_FAST_STORE_FAST": of_locals, "BINARY_OP": of_operator,
    "COMPARE_OP": of_comparison, "UNPACK_EX": of_unpacking,
}
