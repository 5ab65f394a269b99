"""What arguments of instructions mean, as texts.

The functions take a code and an argument; None tells that it is an index outside of its table.
"""

from codewalk.codes import Code
from codewalk.encoding import COMPARISON_SIGNS, OPERATOR_SIGNS, TRUTH

INTRINSICS = {3: "INTRINSIC_STOPITERATION_ERROR", 6: "INTRINSIC_LIST_TO_TUPLE"}
ATTRIBUTES = {1: "defaults", 2: "kwdefaults", 8: "closure"}


def of_constant(code, argument):
    if argument >= len(code.constants):
        return None
    constant = code.constants[argument]
    return f"<code {constant.path}>" if isinstance(constant, Code) else repr(constant)


def of_name(code, argument):
    return code.names[argument] if argument < len(code.names) else None


def of_attribute(code, argument):
    name = of_name(code, argument >> 1)
    return f"{name} + NULL|self" if argument & 1 and name is not None else name


def of_global(code, argument):
    name = of_name(code, argument >> 1)
    return f"{name} + NULL" if argument & 1 and name is not None else name


def of_local(code, argument):
    return code.slots[argument] if argument < len(code.slots) else None


def of_locals(code, argument):
    first, second = of_local(code, argument >> 4), of_local(code, argument & 15)
    return None if first is None or second is None else f"{first}, {second}"


def of_operator(code, argument):
    return OPERATOR_SIGNS.get(argument, "")


def of_comparison(code, argument):
    if argument in COMPARISON_SIGNS:
        return COMPARISON_SIGNS[argument]
    sign = COMPARISON_SIGNS.get(argument - TRUTH)
    return "" if sign is None else f"bool({sign})"


def of_opposite(code, argument):
    return "not" if argument == 1 else ""


def of_intrinsic(code, argument):
    return INTRINSICS.get(argument, "")


def of_function_attribute(code, argument):
    return ATTRIBUTES.get(argument, "")


MEANINGS = {
    "LOAD_CONST": of_constant, "RETURN_CONST": of_constant, "DELETE_ATTR": of_name, "DELETE_GLOBAL": of_name,
    "DELETE_NAME": of_name, "LOAD_NAME": of_name, "STORE_ATTR": of_name, "STORE_GLOBAL": of_name,
    "STORE_NAME": of_name, "LOAD_ATTR": of_attribute, "LOAD_GLOBAL": of_global, "DELETE_DEREF": of_local,
    "DELETE_FAST": of_local, "LOAD_DEREF": of_local, "LOAD_FAST": of_local, "LOAD_FAST_CHECK": of_local,
    "LOAD_FROM_DICT_OR_DEREF": of_local, "MAKE_CELL": of_local, "STORE_DEREF": of_local, "STORE_FAST": of_local,
    "LOAD_FAST_LOAD_FAST": of_locals, "STORE_FAST_LOAD_FAST": of_locals, "STORE_FAST_STORE_FAST": of_locals,
    "BINARY_OP": of_operator, "COMPARE_OP": of_comparison, "IS_OP": of_opposite, "CONTAINS_OP": of_opposite,
    "CALL_INTRINSIC_1": of_intrinsic, "SET_FUNCTION_ATTRIBUTE": of_function_attribute,
}
