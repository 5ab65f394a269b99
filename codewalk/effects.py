"""What instructions do with the values on the stack.

An ACTION takes the machine, the frame and the argument made ready; the frame stops if it returns True.
"""

from codewalk.arithmetic import inverted, negative, operate
from codewalk.attributes import attribute_of, delete_attribute, method_of, store_attribute
from codewalk.calling import call_value, keywords_of, merge_keywords
from codewalk.comparing import comparison, identical, put_pair, truth
from codewalk.going import contains, items_of, unpacked, unpacked_with_list
from codewalk.subscripts import delete_element, element_of, slice_of, store_element, store_slice
from codewalk.values import Dict, List


class Null:
    """The entry NULL, which is no value."""


def cut_off(stack, many):
    """Take so many entries off the stack; the lowest first."""
    split = len(stack) - many
    found = stack[split:]
    del stack[split:]
    return found


def nothing(machine, frame, argument):
    pass


def pop_top(machine, frame, argument):
    frame.stack.pop()


def copy_entry(machine, frame, argument):
    frame.stack.append(frame.stack[-argument])


def swap(machine, frame, argument):
    stack = frame.stack
    stack[-1], stack[-argument] = stack[-argument], stack[-1]


def push_null(machine, frame, argument):
    frame.stack.append(Null())


def load_constant(machine, frame, argument):
    frame.stack.append(argument)


def load_assertion_error(machine, frame, argument):
    frame.stack.append(machine.named["AssertionError"])


def load_builder(machine, frame, argument):
    frame.stack.append(machine.builder)


def get_element(machine, frame, argument):
    value, index = cut_off(frame.stack, 2)
    frame.stack.append(element_of(machine, value, index))


def get_slice(machine, frame, argument):
    value, lower, upper = cut_off(frame.stack, 3)
    frame.stack.append(slice_of(machine, value, lower, upper))


def put_element(machine, frame, argument):
    stored, value, index = cut_off(frame.stack, 3)
    store_element(machine, value, index, stored)


def put_slice(machine, frame, argument):
    stored, value, lower, upper = cut_off(frame.stack, 4)
    store_slice(machine, value, lower, upper, stored)


def drop_element(machine, frame, argument):
    value, index = cut_off(frame.stack, 2)
    delete_element(machine, value, index)


def get_attribute(machine, frame, argument):
    """Load an attribute; or a function of the class and the value itself, or else the attribute and NULL."""
    name, more = argument
    value = frame.stack.pop()
    if not more:
        frame.stack.append(attribute_of(machine, value, name))
        return
    function, found = method_of(machine, value, name)
    frame.stack.extend([found, Null()] if function is None else [function, value])


def put_attribute(machine, frame, argument):
    stored, value = cut_off(frame.stack, 2)
    store_attribute(machine, value, argument, stored)


def drop_attribute(machine, frame, argument):
    delete_attribute(machine, frame.stack.pop(), argument)


def to_bool(machine, frame, argument):
    frame.stack.append(truth(machine, frame.stack.pop()))


def invert_bool(machine, frame, argument):
    frame.stack.append(not frame.stack.pop())


def invert(machine, frame, argument):
    frame.stack.append(inverted(machine, frame.stack.pop()))


def negate(machine, frame, argument):
    frame.stack.append(negative(machine, frame.stack.pop()))


def operate_on_two(machine, frame, argument):
    left, right = cut_off(frame.stack, 2)
    frame.stack.append(operate(machine, argument, left, right))


def compare(machine, frame, argument):
    left, right = cut_off(frame.stack, 2)
    frame.stack.append(comparison(machine, argument, left, right))


def look_inside(machine, frame, argument):
    value, held = cut_off(frame.stack, 2)
    frame.stack.append(contains(machine, value, held) != (argument == 1))


def look_whether_one(machine, frame, argument):
    left, right = cut_off(frame.stack, 2)
    frame.stack.append(identical(left, right) != (argument == 1))


def build_tuple(machine, frame, argument):
    frame.stack.append(tuple(cut_off(frame.stack, argument)))


def build_list(machine, frame, argument):
    frame.stack.append(List(cut_off(frame.stack, argument)))


def build_dict(machine, frame, argument):
    row = cut_off(frame.stack, 2 * argument)
    made = Dict()
    for at in range(0, len(row), 2):
        put_pair(machine, made, row[at], row[at + 1])
    frame.stack.append(made)


def build_dict_by_keys(machine, frame, argument):
    keys = frame.stack.pop()
    made = Dict()
    for key, value in zip(keys, cut_off(frame.stack, argument)):
        put_pair(machine, made, key, value)
    frame.stack.append(made)


def append_to_list(machine, frame, argument):
    value = frame.stack.pop()
    frame.stack[-argument].row.append(value)


def extend_list(machine, frame, argument):
    row = items_of(machine, frame.stack.pop())
    frame.stack[-argument].row.extend(row)


def add_pair(machine, frame, argument):
    key, value = cut_off(frame.stack, 2)
    put_pair(machine, frame.stack[-argument], key, value)


def merge(machine, frame, argument):
    other = frame.stack.pop()
    merge_keywords(machine, frame.stack[-argument], other)


def change_kind(machine, frame, argument):
    """Make a tuple of a list, or what leaves a generator of an exception in it."""
    value = frame.stack.pop()
    frame.stack.append(tuple(value.row) if argument == 6 else machine.ended_generator(value))


def unpack(machine, frame, argument):
    found = unpacked(machine, frame.stack.pop(), argument)
    frame.stack.extend(list(reversed(found)))


def unpack_with_list(machine, frame, argument):
    ahead, behind = argument
    found = unpacked_with_list(machine, frame.stack.pop(), ahead, behind)
    frame.stack.extend(list(reversed(found)))


def call(machine, frame, argument):
    values = cut_off(frame.stack, argument)
    frame.stack.append(call_below(machine, frame, values, {}))


def call_by_names(machine, frame, argument):
    names = frame.stack.pop()
    values = cut_off(frame.stack, argument)
    split = argument - len(names)
    keywords = {name: value for name, value in zip(names, values[split:])}
    frame.stack.append(call_below(machine, frame, values[:split], keywords))


def call_below(machine, frame, values, keywords):
    """Call what lies on the stack below what may be the first value of all."""
    called, first = cut_off(frame.stack, 2)
    if not isinstance(first, Null):
        values = [first, *values]
    return call_value(machine, called, values, keywords)


def call_with_rows(machine, frame, argument):
    held = frame.stack.pop() if argument == 1 else Dict()
    called, _, row = cut_off(frame.stack, 3)
    values = items_of(machine, row)
    frame.stack.append(call_value(machine, called, values, keywords_of(machine, held)))


VALUE_ACTIONS = {
    "NOP": nothing, "RESUME": nothing, "POP_TOP": pop_top, "END_FOR": pop_top, "COPY": copy_entry, "SWAP": swap,
    "PUSH_NULL": push_null, "LOAD_CONST": load_constant, "LOAD_ASSERTION_ERROR": load_assertion_error,
    "LOAD_BUILD_CLASS": load_builder, "BINARY_SUBSCR": get_element, "BINARY_SLICE": get_slice,
    "STORE_SUBSCR": put_element, "STORE_SLICE": put_slice, "DELETE_SUBSCR": drop_element,
    "LOAD_ATTR": get_attribute, "STORE_ATTR": put_attribute, "DELETE_ATTR": drop_attribute, "TO_BOOL": to_bool,
    "UNARY_NOT": invert_bool,
    "UNARY_INVERT": invert, "UNARY_NEGATIVE": negate, "BINARY_OP": operate_on_two, "COMPARE_OP": compare,
    "CONTAINS_OP": look_inside, "IS_OP": look_whether_one, "BUILD_TUPLE": build_tuple, "BUILD_LIST": build_list,
    "BUILD_MAP": build_dict, "BUILD_CONST_KEY_MAP": build_dict_by_keys, "LIST_APPEND": append_to_list,
    "LIST_EXTEND": extend_list, "MAP_ADD": add_pair, "DICT_MERGE": merge, "CALL_INTRINSIC_1": change_kind,
    "UNPACK_SEQUENCE": unpack, "UNPACK_EX": unpack_with_list, "CALL": call, "CALL_KW": call_by_names,
    "CALL_FUNCTION_EX": call_with_rows,
}
