"""What instructions do with the values on the stack, where tasks of the walker do not do the same.

An ACTION takes the machine, the frame and the argument made ready; the frame stops if it returns True.
"""

from codewalk.attributes import attribute_of, method_of
from codewalk.calling import call_value, keywords_of
from codewalk.comparing import comparison, identical
from codewalk.going import contains, items_of
from codewalk.stacks import cut_off
from codewalk.values import Dict


class Null:
    """The entry NULL, which is no value."""


def nothing(machine, frame, argument):
    pass


def push_null(machine, frame, argument):
    frame.stack.append(Null())


def load_assertion_error(machine, frame, argument):
    frame.stack.append(machine.named["AssertionError"])


def load_builder(machine, frame, argument):
    frame.stack.append(machine.builder)


def get_attribute(machine, frame, argument):
    """Load an attribute; or a function of the class and the value itself, or else the attribute and NULL."""
    name, more = argument
    value = frame.stack.pop()
    if not more:
        frame.stack.append(attribute_of(machine, value, name))
        return
    function, found = method_of(machine, value, name)
    frame.stack.extend([found, Null()] if function is None else [function, value])


def compare(machine, frame, argument):
    right = frame.stack.pop()
    left = frame.stack.pop()
    frame.stack.append(comparison(machine, argument, left, right))


def look_inside(machine, frame, argument):
    held = frame.stack.pop()
    value = frame.stack.pop()
    frame.stack.append(contains(machine, value, held) != (argument == 1))


def look_whether_one(machine, frame, argument):
    right = frame.stack.pop()
    left = frame.stack.pop()
    frame.stack.append(identical(left, right) != (argument == 1))


def call(machine, frame, argument):
    stack = frame.stack
    first = len(stack) - argument
    values = stack[first:]
    if not isinstance(stack[first - 1], Null):
        values = stack[first - 1:]
    called = stack[first - 2]
    del stack[first - 2:]
    stack.append(call_value(machine, called, values, {}))


def call_by_names(machine, frame, argument):
    names = frame.stack.pop()
    values = cut_off(frame.stack, argument)
    split = argument - len(names)
    keywords = {name: value for name, value in zip(names, values[split:])}
    called, first = cut_off(frame.stack, 2)
    values = values[:split] if isinstance(first, Null) else [first, *values[:split]]
    frame.stack.append(call_value(machine, called, values, keywords))


def call_with_rows(machine, frame, argument):
    held = frame.stack.pop() if argument == 1 else Dict()
    called, _, row = cut_off(frame.stack, 3)
    values = items_of(machine, row)
    frame.stack.append(call_value(machine, called, values, keywords_of(machine, held)))
