"""How the walker evaluates expressions at once: in scopes that never rest in the midst of one.

Functions that evaluate take the walker, the frame, the node, and how many more nodes may be evaluated within one
another below it. Those that lie deeper are left to tasks, or calls would be nested too deep.
"""

from codewalk.arithmetic import inverted, negative, operate
from codewalk.attributes import attribute_of
from codewalk.calling import call_value
from codewalk.comparing import put_pair, truth
from codewalk.evaluating import compared, test, to
from codewalk.going import iterator_of
from codewalk.outlines import load, store
from codewalk.results import made_function
from codewalk.shapes import has_slice, has_stars
from codewalk.subscripts import element_of, slice_of
from codewalk.values import Dict, List

ROOM = 6


def value_of(walker, frame, node, room=ROOM):
    """The value of an expression."""
    word = node[0]
    if word == "Name":
        return load(walker, frame, node[1])
    if word == "Constant":
        return node[1]
    if room == 0 or word not in EXPRESSIONS:
        return left_to_tasks(walker, frame, to(node))
    action = EXPRESSIONS[word]
    return action(walker, frame, node, room - 1)


def values_of(walker, frame, row, room=ROOM):
    """The values of expressions, none of them Starred."""
    return [value_of(walker, frame, node, room) for node in row]


def left_to_tasks(walker, frame, task):
    """What a task, and those that it puts there, leave on top of the stack."""
    many = len(frame.tasks)
    frame.tasks.append(task)
    run_down(walker, frame, many)
    return frame.stack.pop()


def run_down(walker, frame, many):
    """Run the tasks of a frame down to so many."""
    tasks = frame.tasks
    while len(tasks) > many:
        action, part = tasks.pop()
        action(walker, frame, part)


def truth_of(walker, frame, node, room=ROOM):
    """The truth of an expression; each value in it is asked for its own once."""
    word = node[0]
    if room == 0:
        return left_to_tasks(walker, frame, test(node))
    if word == "BoolOp":
        return truth_of_junction(walker, frame, node, room - 1)
    if word == "IfExp":
        chosen = node[2] if truth_of(walker, frame, node[1], room - 1) else node[3]
        return truth_of(walker, frame, chosen, room - 1)
    if word == "UnaryOp" and node[1] == "not":
        return not truth_of(walker, frame, node[2], room - 1)
    return truth(walker, value_of(walker, frame, node, room))


def truth_of_junction(walker, frame, node, room):
    settles = node[1] == "or"
    for value in node[2]:
        if truth_of(walker, frame, value, room) == settles:
            return settles
    return not settles


def of_tuple(walker, frame, node, room):
    if has_stars(node[1]):
        return left_to_tasks(walker, frame, to(node))
    return tuple(values_of(walker, frame, node[1], room))


def of_list(walker, frame, node, room):
    if has_stars(node[1]):
        return left_to_tasks(walker, frame, to(node))
    return List(values_of(walker, frame, node[1], room))


def of_dict(walker, frame, node, room):
    _, keys, values = node
    pairs = [(value_of(walker, frame, key, room), value_of(walker, frame, value, room))
             for key, value in zip(keys, values)]
    made = Dict()
    for key, value in pairs:
        put_pair(walker, made, key, value)
    return made


def of_binary(walker, frame, node, room):
    left = value_of(walker, frame, node[1], room)
    return operate(walker, node[2], left, value_of(walker, frame, node[3], room))


def of_unary(walker, frame, node, room):
    _, op, part = node
    value = value_of(walker, frame, part, room)
    if op == "not":
        return not truth(walker, value)
    return negative(walker, value) if op == "-" else inverted(walker, value)


def of_junction(walker, frame, node, room):
    _, op, values = node
    for at in range(len(values) - 1):
        value = value_of(walker, frame, values[at], room)
        if truth(walker, value) == (op == "or"):
            return value
    return value_of(walker, frame, values[-1], room)


def of_comparison(walker, frame, node, room):
    _, part, ops, parts = node
    left = value_of(walker, frame, part, room)
    for op, part in zip(ops, parts):
        right = value_of(walker, frame, part, room)
        if not compared(walker, op, left, right):
            return False
        left = right
    return True


def of_choice(walker, frame, node, room):
    return value_of(walker, frame, node[2] if truth_of(walker, frame, node[1], room) else node[3], room)


def of_call(walker, frame, node, room):
    _, function, arguments, keywords = node
    called = value_of(walker, frame, function, room)
    values = [value_of(walker, frame, argument, room) for argument in arguments]
    named = {name: value_of(walker, frame, value, room) for name, value in keywords} if keywords else {}
    return call_value(walker, called, values, named)


def of_attribute(walker, frame, node, room):
    return attribute_of(walker, value_of(walker, frame, node[1], room), node[2])


def of_subscript(walker, frame, node, room):
    value = value_of(walker, frame, node[1], room)
    if has_slice(node):
        lower, upper = values_of(walker, frame, node[2][1:], room)
        return slice_of(walker, value, lower, upper)
    return element_of(walker, value, value_of(walker, frame, node[2], room))


def of_lambda(walker, frame, node, room):
    return function_at_once(walker, frame, node[1], node[2], room)


def function_at_once(walker, frame, parameters, number, room=ROOM):
    """The function of a scope with its defaults."""
    defaults, names, values = parameters
    given = tuple(values_of(walker, frame, defaults, room)) if defaults else ()
    named = {name: value_of(walker, frame, value, room) for name, value in zip(names, values)} if names else {}
    return made_function(walker, frame, number, given, named)


def of_named(walker, frame, node, room):
    value = value_of(walker, frame, node[2], room)
    store(walker, frame, node[1], value)
    return value


def of_comprehension(walker, frame, node, room):
    function = made_function(walker, frame, node[2], (), {})
    value = value_of(walker, frame, node[1], room)
    return walker.call(function, [iterator_of(walker, value)])


EXPRESSIONS = {
    "Tuple": of_tuple, "List": of_list, "Dict": of_dict, "BinOp": of_binary, "UnaryOp": of_unary,
    "BoolOp": of_junction, "Compare": of_comparison, "IfExp": of_choice, "Call": of_call, "Attribute": of_attribute,
    "Subscript": of_subscript, "Lambda": of_lambda, "NamedExpr": of_named, "ListComp": of_comprehension,
    "DictComp": of_comprehension, "GeneratorExp": of_comprehension,
}
