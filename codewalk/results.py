"""Tasks of the walker that use the values on the stack of a frame, and leave others there."""

from codewalk.arithmetic import inverted, negative, operate
from codewalk.attributes import attribute_of
from codewalk.calling import call_value, keywords_of, merge_keywords
from codewalk.comparing import put_pair, truth
from codewalk.going import items_of, iterator_of
from codewalk.outlines import store
from codewalk.plain import plain
from codewalk.subscripts import element_of, slice_of
from codewalk.values import Dict, Function, Generator, List, RESTS


def cut_off(frame, many):
    """Take so many values off the stack; the lowest first."""
    split = len(frame.stack) - many
    found = frame.stack[split:]
    del frame.stack[split:]
    return found


def put_value(walker, frame, value):
    frame.stack.append(value)


def drop(walker, frame, part):
    frame.stack.pop()


def copy_top(walker, frame, part):
    frame.stack.append(frame.stack[-1])


def store_name(walker, frame, name):
    store(walker, frame, name, frame.stack.pop())


def make_tuple(walker, frame, many):
    frame.stack.append(tuple(cut_off(frame, many)))


def make_list(walker, frame, many):
    frame.stack.append(List(cut_off(frame, many)))


def make_tuple_of_list(walker, frame, part):
    frame.stack[-1] = tuple(frame.stack[-1].row)


def extend_list(walker, frame, part):
    row = items_of(walker, frame.stack.pop())
    frame.stack[-1].row.extend(row)


def append_to_list(walker, frame, part):
    value = frame.stack.pop()
    frame.stack[-1].row.append(value)


def make_dict(walker, frame, many):
    row = cut_off(frame, 2 * many)
    made = Dict()
    for at in range(0, len(row), 2):
        put_pair(walker, made, row[at], row[at + 1])
    frame.stack.append(made)


def make_dict_by_keys(walker, frame, keys):
    made = Dict()
    for key, value in zip(keys, cut_off(frame, len(keys))):
        put_pair(walker, made, key, value)
    frame.stack.append(made)


def merge(walker, frame, part):
    other = frame.stack.pop()
    merge_keywords(walker, frame.stack[-1], other)


def operate_on_two(walker, frame, op):
    left, right = cut_off(frame, 2)
    frame.stack.append(operate(walker, op, left, right))


def operate_on_one(walker, frame, op):
    value = frame.stack.pop()
    if op == "not":
        frame.stack.append(not truth(walker, value))
    else:
        frame.stack.append(negative(walker, value) if op == "-" else inverted(walker, value))


def to_bool(walker, frame, part):
    frame.stack.append(truth(walker, frame.stack.pop()))


def flip(walker, frame, part):
    frame.stack.append(not frame.stack.pop())


def get_attribute(walker, frame, name):
    frame.stack.append(attribute_of(walker, frame.stack.pop(), name))


def get_element(walker, frame, part):
    value, index = cut_off(frame, 2)
    frame.stack.append(element_of(walker, value, index))


def get_slice(walker, frame, part):
    value, lower, upper = cut_off(frame, 3)
    frame.stack.append(slice_of(walker, value, lower, upper))


def get_iterator(walker, frame, part):
    frame.stack.append(iterator_of(walker, frame.stack.pop()))


def get_source(walker, frame, part):
    """Take a generator as it is, and an iterator of all else."""
    if not isinstance(frame.stack[-1], Generator):
        get_iterator(walker, frame, part)


def make_function(walker, frame, part):
    number, many, names = part
    outline = walker.outlines[number]
    function = Function(outline)
    function.onlydefaults = {name: value for name, value in zip(names, cut_off(frame, len(names)))}
    function.defaults = tuple(cut_off(frame, many))
    function.cells = tuple([frame.cells[name] for name in outline.frees])
    frame.stack.append(function)


def call_on_top(walker, frame, part):
    """Call what lies below the top with the top alone."""
    called, value = cut_off(frame, 2)
    frame.stack.append(walker.call(called, [value]))


def call(walker, frame, part):
    """Call what lies below so many values, the last of them by these names."""
    many, names = part
    values = cut_off(frame, many)
    split = many - len(names)
    keywords = {name: value for name, value in zip(names, values[split:])}
    frame.stack.append(call_value(walker, frame.stack.pop(), values[:split], keywords))


def call_with_rows(walker, frame, part):
    """Call what lies below a row of values and a dict of values by name."""
    called, row, held = cut_off(frame, 3)
    values = items_of(walker, row)
    frame.stack.append(call_value(walker, called, values, keywords_of(walker, held)))


def give(walker, frame, part):
    """Rest with what is yielded."""
    frame.value = frame.stack.pop()
    frame.state = RESTS
    walker.put(("yield", plain(frame.value)))
