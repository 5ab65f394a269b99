"""The bytes of a code while its rows are put into them, and the numbers that their arguments become."""

from codewalk.codes import told_constants
from codewalk.encoding import COMPARISONS, OPERATORS, TRUTH


class Draft:
    """The bytes of a code so far, as long as no jump needs an EXTENDED_ARG, and the tables of the code."""

    def __init__(self, slots, codes):
        self.data = []
        # The constants, with the number of each by its key; the numbers of names, and those of locals so far.
        self.constants = []
        self.numbers = {}
        self.names = {}
        self.slots = slots
        # What LOAD_CODE loads, by the numbers of scopes.
        self.codes = codes
        # Where each label leads, and for each jump where it stands, its label, and where it ends.
        self.labels = {}
        self.jumps = []
        # The stretches (begin, end, what they have) that have one line, and that have one handler.
        self.lines = []
        self.handlers = []


def of_constant(draft, value):
    """The number of a constant; unlike kinds are never the same."""
    if value is True or value is False:
        # As keys, bools would be integers.
        return kept(draft, ("bool", value), value)
    if isinstance(value, tuple):
        return kept(draft, ("tuple", told_constants((value,))), value)
    numbers = draft.numbers
    return numbers[value] if value in numbers else kept(draft, value, value)


def of_code(draft, number):
    return kept(draft, ("code", number), draft.codes[number])


def kept(draft, key, constant):
    """The number of the constant that has this key."""
    numbers = draft.numbers
    if key not in numbers:
        numbers[key] = len(numbers)
        draft.constants.append(constant)
    return numbers[key]


def of_name(draft, name):
    names = draft.names
    if name not in names:
        names[name] = len(names)
    return names[name]


def of_name_with_more(draft, argument):
    return 2 * of_name(draft, argument[0]) + (1 if argument[1] else 0)


def of_local(draft, name):
    slots = draft.slots
    if name not in slots:
        slots[name] = len(slots)
    return slots[name]


def of_locals(draft, names):
    first = of_local(draft, names[0])
    return 16 * first + of_local(draft, names[1])


def of_operator(_, op):
    return OPERATORS[op]


def of_comparison(_, argument):
    return COMPARISONS[argument[0]] + (TRUTH if argument[1] else 0)


def of_unpacking(_, argument):
    return argument[0] + 256 * argument[1]


def of_jump(draft, label):
    """Leave the distance of a jump that has one unit behind it for later."""
    at = len(draft.data)
    draft.jumps.append((at, label, at + 4))
    return 0


def of_bare_jump(draft, label):
    """The same for one that has none."""
    at = len(draft.data)
    draft.jumps.append((at, label, at + 2))
    return 0


# For each word its number, the bytes of the units behind it, and what makes a number of its argument if that is none.
FORMS = {
    "BEFORE_WITH": (2, (), None), "BINARY_SLICE": (4, (), None), "BINARY_SUBSCR": (5, (0, 0), None),
    "CHECK_EXC_MATCH": (7, (), None), "CLEANUP_THROW": (8, (), None), "DELETE_SUBSCR": (9, (), None),
    "END_FOR": (11, (), None), "END_SEND": (12, (), None), "GET_ITER": (19, (), None),
    "GET_YIELD_FROM_ITER": (21, (), None), "LOAD_ASSERTION_ERROR": (23, (), None), "LOAD_BUILD_CLASS": (24, (), None),
    "LOAD_LOCALS": (25, (), None), "MAKE_FUNCTION": (26, (), None), "NOP": (30, (), None), "POP_EXCEPT": (31, (), None),
    "POP_TOP": (32, (), None), "PUSH_EXC_INFO": (33, (), None), "PUSH_NULL": (34, (), None),
    "RETURN_GENERATOR": (35, (), None), "RETURN_VALUE": (36, (), None), "STORE_SLICE": (38, (), None),
    "STORE_SUBSCR": (39, (0, 0), None), "TO_BOOL": (40, (0, 0, 0, 0, 0, 0), None), "UNARY_INVERT": (41, (), None),
    "UNARY_NEGATIVE": (42, (), None), "UNARY_NOT": (43, (), None), "WITH_EXCEPT_START": (44, (), None),
    "BINARY_OP": (45, (0, 0), of_operator), "BUILD_CONST_KEY_MAP": (46, (), None), "BUILD_LIST": (47, (), None),
    "BUILD_MAP": (48, (), None), "BUILD_TUPLE": (52, (), None), "CALL": (53, (0, 0, 0, 0, 0, 0), None),
    "CALL_FUNCTION_EX": (54, (), None), "CALL_INTRINSIC_1": (55, (), None), "CALL_KW": (57, (), None),
    "COMPARE_OP": (58, (0, 0), of_comparison), "CONTAINS_OP": (59, (0, 0), None), "COPY": (61, (), None),
    "COPY_FREE_VARS": (62, (), None), "DELETE_ATTR": (63, (), of_name), "DELETE_DEREF": (64, (), of_local),
    "DELETE_FAST": (65, (), of_local), "DELETE_GLOBAL": (66, (), of_name), "DELETE_NAME": (67, (), of_name),
    "DICT_MERGE": (68, (), None), "FOR_ITER": (72, (0, 0), of_jump), "IS_OP": (76, (), None),
    "JUMP_BACKWARD": (77, (0, 0), of_jump), "JUMP_BACKWARD_NO_INTERRUPT": (78, (), of_bare_jump),
    "JUMP_FORWARD": (79, (), of_bare_jump), "LIST_APPEND": (80, (), None), "LIST_EXTEND": (81, (), None),
    "LOAD_ATTR": (82, (0, 0, 0, 0, 0, 0, 0, 0, 0, 0, 0, 0, 0, 0, 0, 0, 0, 0), of_name_with_more),
    "LOAD_CONST": (83, (), of_constant), "LOAD_DEREF": (84, (), of_local), "LOAD_FAST": (85, (), of_local),
    "LOAD_FAST_CHECK": (87, (), of_local), "LOAD_FAST_LOAD_FAST": (88, (), of_locals),
    "LOAD_FROM_DICT_OR_DEREF": (89, (), of_local), "LOAD_GLOBAL": (91, (0, 0, 0, 0, 0, 0, 0, 0), of_name_with_more),
    "LOAD_NAME": (92, (), of_name), "MAKE_CELL": (94, (), of_local), "MAP_ADD": (95, (), None),
    "POP_JUMP_IF_FALSE": (97, (0, 0), of_jump), "POP_JUMP_IF_NONE": (98, (0, 0), of_jump),
    "POP_JUMP_IF_NOT_NONE": (99, (0, 0), of_jump), "POP_JUMP_IF_TRUE": (100, (0, 0), of_jump),
    "RAISE_VARARGS": (101, (), None), "RERAISE": (102, (), None), "RETURN_CONST": (103, (), of_constant),
    "SEND": (104, (0, 0), of_jump), "SET_FUNCTION_ATTRIBUTE": (106, (), None),
    "STORE_ATTR": (108, (0, 0, 0, 0, 0, 0, 0, 0), of_name), "STORE_DEREF": (109, (), of_local),
    "STORE_FAST": (110, (), of_local), "STORE_FAST_LOAD_FAST": (111, (), of_locals),
    "STORE_FAST_STORE_FAST": (112, (), of_locals), "STORE_GLOBAL": (113, (), of_name), "STORE_NAME": (114, (), of_name),
    "SWAP": (115, (), None), "UNPACK_EX": (116, (), of_unpacking), "UNPACK_SEQUENCE": (117, (0, 0), None),
    "YIELD_VALUE": (118, (), None), "RESUME": (149, (), None), "LOAD_CLOSURE": (85, (), of_local),
    "LOAD_CODE": (83, (), of_code),
}
