"""Which arguments instructions may have, and what must stand directly behind something else.

The functions take a case, the number of an instruction and its argument, and tell whether it may stand so.
"""

from codewalk.cases import has_right_slots
from codewalk.codes import Code
from codewalk.encoding import CELL, COMPARISON_SIGNS, FREE, GENERATOR, OPERATOR_SIGNS, PARAMETER_CELL, PLAIN, TRUTH

MOST_UNPACKED = 1000

# The words that stand directly behind others only.
BEHIND = {
    "BUILD_CONST_KEY_MAP": True, "CALL_KW": True, "LOAD_FROM_DICT_OR_DEREF": True, "MAKE_FUNCTION": True,
    "SET_FUNCTION_ATTRIBUTE": True,
}


def first_unfit(case):
    """The number of the first instruction that may not stand as it does, or None."""
    for at, word in enumerate(case.words):
        fits = FITS.get(word)
        if fits is not None and not fits(case, at, case.arguments[at]):
            return at
    return None


def is_nothing(case, at, argument):
    return argument == 0


def is_switch(case, at, argument):
    return argument < 2


def is_up_to_two(case, at, argument):
    return argument < 3


def is_something(case, at, argument):
    return argument > 0


def is_pair_or_more(case, at, argument):
    return argument > 1


def is_operator(case, at, argument):
    return argument in OPERATOR_SIGNS


def is_comparison(case, at, argument):
    return argument in COMPARISON_SIGNS or argument - TRUTH in COMPARISON_SIGNS


def is_intrinsic(case, at, argument):
    return argument == 3 or argument == 6


def is_short_row(case, at, argument):
    return argument <= MOST_UNPACKED


def is_short_parting(case, at, argument):
    return (argument & 255) + (argument >> 8) + 1 <= MOST_UNPACKED


def is_name(case, at, argument):
    return argument < len(case.code.names)


def is_name_with_more(case, at, argument):
    return argument >> 1 < len(case.code.names)


def is_name_of_names(case, at, argument):
    return case.code.flags == 0 and is_name(case, at, argument)


def is_local(case, at, argument):
    return argument < len(case.code.slots)


def is_plain_local(case, at, argument):
    return argument < len(case.code.kinds) and case.code.kinds[argument] == PLAIN


def is_plain_pair(case, at, argument):
    return argument < 256 and is_plain_local(case, at, argument >> 4) and is_plain_local(case, at, argument & 15)


def is_own_cell(case, at, argument):
    return argument < len(case.code.kinds) and case.code.kinds[argument] in (CELL, PARAMETER_CELL)


def is_cell(case, at, argument):
    return argument < len(case.code.kinds) and case.code.kinds[argument] in (CELL, PARAMETER_CELL, FREE)


def is_in_generator(case, at, argument):
    return argument == 0 and case.code.flags & GENERATOR != 0


def is_yield(case, at, argument):
    return argument < 2 and case.code.flags & GENERATOR != 0


def is_resumption(case, at, argument):
    return argument == 0 or (argument in (1, 2, 5) and case.code.flags & GENERATOR != 0)


def is_send(case, at, argument):
    target = case.led_to(at)
    return case.code.flags & GENERATOR != 0 and case.word_at(target) == "END_SEND"


def is_turn(case, at, argument):
    target = case.led_to(at)
    return case.word_at(target) == "END_FOR" and case.word_at(target + 1) == "POP_TOP"


def is_loaded(case, at, argument):
    """Whether a constant may be loaded: a code only if it is made a function at once."""
    constants = case.code.constants
    if argument >= len(constants):
        return False
    return not isinstance(constants[argument], Code) or case.word_at(at + 1) == "MAKE_FUNCTION"


def is_returned(case, at, argument):
    constants = case.code.constants
    return argument < len(constants) and not isinstance(constants[argument], Code)


def constant_ahead(case, at):
    """The constant that the instruction ahead loads, or None."""
    return case.code.constants[case.arguments[at - 1]] if case.word_at(at - 1) == "LOAD_CONST" else None


def is_call_by_names(case, at, argument):
    names = constant_ahead(case, at)
    if not isinstance(names, tuple) or len(names) > argument:
        return False
    return all([isinstance(name, str) for name in names]) and len(set(names)) == len(names)


def is_dict_by_keys(case, at, argument):
    keys = constant_ahead(case, at)
    return isinstance(keys, tuple) and len(keys) == argument


def are_names(case, at, argument):
    """Whether the frame's names may be loaded: only to look for a name in them at once."""
    return argument == 0 and case.code.flags == 0 and case.word_at(at + 1) == "LOAD_FROM_DICT_OR_DEREF"


def is_cell_behind_names(case, at, argument):
    return is_cell(case, at, argument) and case.word_at(at - 1) == "LOAD_LOCALS"


def is_function_made(case, at, argument):
    code = constant_ahead(case, at)
    if argument != 0 or not isinstance(code, Code) or not has_right_slots(code):
        return False
    return FREE not in code.kinds or (case.word_at(at + 1) == "SET_FUNCTION_ATTRIBUTE" and case.arguments[at + 1] == 8)


def is_attribute(case, at, argument):
    """Whether an attribute may be given to a function: its cells, keyword defaults and defaults, in this order."""
    made = case.word_at(at - 1) == "MAKE_FUNCTION"
    if argument == 8:
        return made and FREE in constant_ahead(case, at - 1).kinds
    ahead = case.arguments[at - 1] if case.word_at(at - 1) == "SET_FUNCTION_ATTRIBUTE" else None
    if argument == 2:
        return made or ahead == 8
    return argument == 1 and (made or ahead == 8 or ahead == 2)


# The words that may have any argument as far as this goes are missing.
FITS = {
    "BEFORE_WITH": is_nothing, "BINARY_SLICE": is_nothing, "BINARY_SUBSCR": is_nothing, "CHECK_EXC_MATCH": is_nothing,
    "CLEANUP_THROW": is_nothing, "DELETE_SUBSCR": is_nothing, "END_FOR": is_nothing, "END_SEND": is_nothing,
    "GET_ITER": is_nothing, "LOAD_ASSERTION_ERROR": is_nothing, "LOAD_BUILD_CLASS": is_nothing, "NOP": is_nothing,
    "POP_EXCEPT": is_nothing, "POP_TOP": is_nothing, "PUSH_EXC_INFO": is_nothing, "PUSH_NULL": is_nothing,
    "RETURN_GENERATOR": is_nothing, "RETURN_VALUE": is_nothing, "STORE_SLICE": is_nothing, "STORE_SUBSCR": is_nothing,
    "TO_BOOL": is_nothing, "UNARY_INVERT": is_nothing, "UNARY_NEGATIVE": is_nothing, "UNARY_NOT": is_nothing,
    "WITH_EXCEPT_START": is_nothing, "CALL_FUNCTION_EX": is_switch, "CONTAINS_OP": is_switch, "IS_OP": is_switch,
    "RAISE_VARARGS": is_up_to_two, "RERAISE": is_up_to_two, "COPY": is_something, "DICT_MERGE": is_something,
    "LIST_APPEND": is_something, "LIST_EXTEND": is_something, "MAP_ADD": is_something, "SWAP": is_pair_or_more,
    "BINARY_OP": is_operator, "COMPARE_OP": is_comparison, "CALL_INTRINSIC_1": is_intrinsic,
    "UNPACK_SEQUENCE": is_short_row, "UNPACK_EX": is_short_parting, "DELETE_ATTR": is_name, "DELETE_GLOBAL": is_name,
    "STORE_ATTR": is_name, "STORE_GLOBAL": is_name, "LOAD_ATTR": is_name_with_more, "LOAD_GLOBAL": is_name_with_more,
    "DELETE_NAME": is_name_of_names, "LOAD_NAME": is_name_of_names, "STORE_NAME": is_name_of_names,
    "DELETE_FAST": is_plain_local, "LOAD_FAST_CHECK": is_plain_local, "STORE_FAST": is_plain_local,
    "LOAD_FAST": is_local, "LOAD_FAST_LOAD_FAST": is_plain_pair, "STORE_FAST_LOAD_FAST": is_plain_pair,
    "STORE_FAST_STORE_FAST": is_plain_pair, "MAKE_CELL": is_own_cell, "DELETE_DEREF": is_cell, "LOAD_DEREF": is_cell,
    "STORE_DEREF": is_cell, "GET_YIELD_FROM_ITER": is_in_generator, "YIELD_VALUE": is_yield, "RESUME": is_resumption,
    "SEND": is_send, "FOR_ITER": is_turn, "LOAD_CONST": is_loaded, "RETURN_CONST": is_returned,
    "CALL_KW": is_call_by_names, "BUILD_CONST_KEY_MAP": is_dict_by_keys, "LOAD_LOCALS": are_names,
    "LOAD_FROM_DICT_OR_DEREF": is_cell_behind_names, "MAKE_FUNCTION": is_function_made,
    "SET_FUNCTION_ATTRIBUTE": is_attribute,
}
