"""What is done with the values on the stack of a frame, by instructions of the machine and by tasks of the walker.

The functions take the world, the frame and an argument.
"""

from codewalk.arithmetic import inverted, negative, operate
from codewalk.attributes import delete_attribute, store_attribute
from codewalk.calling import merge_keywords
from codewalk.comparing import put_pair, truth
from codewalk.going import items_of, iterator_of, unpacked, unpacked_with_list
from codewalk.subscripts import delete_element, element_of, slice_of, store_element, store_slice
from codewalk.values import Dict, Generator, List


def cut_off(stack, many):
    """Take so many entries off the stack; the lowest first."""
    split = len(stack) - many
    found = stack[split:]
    del stack[split:]
    return found


def pop_top(world, frame, argument):
    frame.stack.pop()


def copy_entry(world, frame, argument):
    frame.stack.append(frame.stack[-argument])


def swap(world, frame, argument):
    stack = frame.stack
    stack[-1], stack[-argument] = stack[-argument], stack[-1]


def put_value(world, frame, argument):
    frame.stack.append(argument)


def get_element(world, frame, argument):
    index = frame.stack.pop()
    value = frame.stack.pop()
    frame.stack.append(element_of(world, value, index))


def get_slice(world, frame, argument):
    value, lower, upper = cut_off(frame.stack, 3)
    frame.stack.append(slice_of(world, value, lower, upper))


def put_element(world, frame, argument):
    stored, value, index = cut_off(frame.stack, 3)
    store_element(world, value, index, stored)


def put_slice(world, frame, argument):
    stored, value, lower, upper = cut_off(frame.stack, 4)
    store_slice(world, value, lower, upper, stored)


def drop_element(world, frame, argument):
    value, index = cut_off(frame.stack, 2)
    delete_element(world, value, index)


def put_attribute(world, frame, argument):
    value = frame.stack.pop()
    stored = frame.stack.pop()
    store_attribute(world, value, argument, stored)


def drop_attribute(world, frame, argument):
    delete_attribute(world, frame.stack.pop(), argument)


def to_bool(world, frame, argument):
    frame.stack.append(truth(world, frame.stack.pop()))


def invert_bool(world, frame, argument):
    frame.stack.append(not frame.stack.pop())


def invert(world, frame, argument):
    frame.stack.append(inverted(world, frame.stack.pop()))


def negate(world, frame, argument):
    frame.stack.append(negative(world, frame.stack.pop()))


def operate_on_two(world, frame, argument):
    right = frame.stack.pop()
    left = frame.stack.pop()
    frame.stack.append(operate(world, argument, left, right))


def build_tuple(world, frame, argument):
    frame.stack.append(tuple(cut_off(frame.stack, argument)))


def build_list(world, frame, argument):
    frame.stack.append(List(cut_off(frame.stack, argument)))


def build_dict(world, frame, argument):
    row = cut_off(frame.stack, 2 * argument)
    made = Dict()
    for at in range(0, len(row), 2):
        put_pair(world, made, row[at], row[at + 1])
    frame.stack.append(made)


def build_dict_by_keys(world, frame, argument):
    keys = frame.stack.pop()
    made = Dict()
    for key, value in zip(keys, cut_off(frame.stack, argument)):
        put_pair(world, made, key, value)
    frame.stack.append(made)


def append_to_list(world, frame, argument):
    value = frame.stack.pop()
    frame.stack[-argument].row.append(value)


def extend_list(world, frame, argument):
    row = items_of(world, frame.stack.pop())
    frame.stack[-argument].row.extend(row)


def add_pair(world, frame, argument):
    key, value = cut_off(frame.stack, 2)
    put_pair(world, frame.stack[-argument], key, value)


def merge(world, frame, argument):
    other = frame.stack.pop()
    merge_keywords(world, frame.stack[-argument], other)


def change_kind(world, frame, argument):
    """Make a tuple of a list (6), or what leaves a generator of an exception in it (3)."""
    value = frame.stack.pop()
    frame.stack.append(tuple(value.row) if argument == 6 else world.ended_generator(value))


def unpack(world, frame, argument):
    found = unpacked(world, frame.stack.pop(), argument)
    frame.stack.extend(list(reversed(found)))


def unpack_with_list(world, frame, argument):
    ahead, behind = argument
    found = unpacked_with_list(world, frame.stack.pop(), ahead, behind)
    frame.stack.extend(list(reversed(found)))


def get_iterator(world, frame, argument):
    frame.stack.append(iterator_of(world, frame.stack.pop()))


def get_source(world, frame, argument):
    """Take a generator as it is, and an iterator of all else."""
    if not isinstance(frame.stack[-1], Generator):
        get_iterator(world, frame, argument)
