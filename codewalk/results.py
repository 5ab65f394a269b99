"""Tasks of the walker that use the values on the stack of a frame, where instructions do not do the same."""

from codewalk.attributes import attribute_of
from codewalk.calling import call_value, keywords_of
from codewalk.going import items_of
from codewalk.outlines import store
from codewalk.plain import plain
from codewalk.stacks import cut_off
from codewalk.values import Function, RESTS


def store_name(walker, frame, name):
    store(walker, frame, name, frame.stack.pop())


def get_attribute(walker, frame, name):
    frame.stack.append(attribute_of(walker, frame.stack.pop(), name))


def make_function(walker, frame, part):
    """Make the function of a scope with so many defaults and keyword defaults for these names."""
    number, many, names = part
    named = {name: value for name, value in zip(names, cut_off(frame.stack, len(names)))}
    given = tuple(cut_off(frame.stack, many))
    frame.stack.append(made_function(walker, frame, number, given, named))


def made_function(walker, frame, number, given, named):
    """The function of a scope with these defaults and keyword defaults."""
    outline = walker.outlines[number]
    function = Function(outline)
    function.defaults = given
    function.onlydefaults = named
    if outline.frees:
        function.cells = tuple([frame.cells[name] for name in outline.frees])
    return function


def call_on_top(walker, frame, part):
    """Call what lies below the top with the top alone."""
    called, value = cut_off(frame.stack, 2)
    frame.stack.append(walker.call(called, [value]))


def call(walker, frame, part):
    """Call what lies below so many values, the last of them by these names."""
    many, names = part
    values = cut_off(frame.stack, many)
    split = many - len(names)
    keywords = {name: value for name, value in zip(names, values[split:])}
    frame.stack.append(call_value(walker, frame.stack.pop(), values[:split], keywords))


def call_with_rows(walker, frame, part):
    """Call what lies below a row of values and a dict of values by name."""
    called, row, held = cut_off(frame.stack, 3)
    values = items_of(walker, row)
    frame.stack.append(call_value(walker, called, values, keywords_of(walker, held)))


def give(walker, frame, part):
    """Rest with what is yielded."""
    frame.value = frame.stack.pop()
    frame.state = RESTS
    walker.put(("yield", plain(frame.value)))
