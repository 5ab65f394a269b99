"""How the walker evaluates expressions: each of them leaves its value on the stack of its frame."""

from codewalk.blocks import delegate
from codewalk.comparing import comparison, identical, truth
from codewalk.going import contains
from codewalk.outlines import load, push
from codewalk.results import call, call_on_top, call_with_rows, get_attribute, give, make_function, store_name
from codewalk.shapes import are_constants, constants_of, has_slice, has_stars
from codewalk.stacks import (
    append_to_list, build_dict, build_dict_by_keys, build_list, build_tuple, change_kind, copy_entry, cut_off,
    extend_list, get_element, get_iterator, get_slice, get_source, invert, invert_bool, merge, negate, operate_on_two,
    put_value, to_bool,
)

# What makes a tuple of a list.
TO_TUPLE = 6


def to(node):
    """The task that evaluates an expression."""
    return (EXPRESSIONS[node[0]], node)


def all_of(row):
    """The tasks that evaluate expressions."""
    return [(EXPRESSIONS[node[0]], node) for node in row]


def evaluate_constant(walker, frame, node):
    frame.stack.append(node[1])


def evaluate_name(walker, frame, node):
    frame.stack.append(load(walker, frame, node[1]))


def evaluate_tuple(walker, frame, node):
    row = node[1]
    if has_stars(row):
        push(frame, [*tasks_with_stars(row), (change_kind, TO_TUPLE)])
    else:
        push(frame, [*all_of(row), (build_tuple, len(row))])


def evaluate_list(walker, frame, node):
    row = node[1]
    push(frame, tasks_with_stars(row) if has_stars(row) else [*all_of(row), (build_list, len(row))])


def tasks_with_stars(row):
    """The tasks that make a list with Starred ones among its elements."""
    ahead = 0
    while row[ahead][0] != "Starred":
        ahead += 1
    tasks = [*all_of(row[:ahead]), (build_list, ahead)]
    for node in row[ahead:]:
        if node[0] == "Starred":
            tasks.extend([to(node[1]), (extend_list, 1)])
        else:
            tasks.extend([to(node), (append_to_list, 1)])
    return tasks


def evaluate_dict(walker, frame, node):
    _, keys, values = node
    if len(keys) > 1 and are_constants(keys):
        push(frame, [*all_of(values), (put_value, constants_of(keys)), (build_dict_by_keys, len(keys))])
        return
    tasks = []
    for key, value in zip(keys, values):
        tasks.extend([to(key), to(value)])
    push(frame, [*tasks, (build_dict, len(keys))])


def evaluate_binary(walker, frame, node):
    push(frame, [to(node[1]), to(node[3]), (operate_on_two, node[2])])


def evaluate_unary(walker, frame, node):
    _, op, value = node
    if op == "not":
        push(frame, [to(value), (to_bool, None), (invert_bool, None)])
    else:
        push(frame, [to(value), (negate if op == "-" else invert, None)])


def evaluate_junction(walker, frame, node):
    push(frame, [to(node[2][0]), (go_on_with_junction, (node, 1))])


def go_on_with_junction(walker, frame, part):
    """Take the next value of a BoolOp in the place of the one before, if that does not settle it."""
    node, at = part
    _, op, values = node
    if truth(walker, frame.stack[-1]) == (op == "or"):
        return
    frame.stack.pop()
    if at == len(values) - 1:
        push(frame, [to(values[at])])
    else:
        push(frame, [to(values[at]), (go_on_with_junction, (node, at + 1))])


def evaluate_comparison(walker, frame, node):
    push(frame, [to(node[1]), to(node[3][0]), (compare, (node, 0))])


def compare(walker, frame, part):
    """Compare two values, and the second one with the next one if that holds."""
    node, at = part
    _, _, ops, values = node
    left, right = cut_off(frame.stack, 2)
    found = compared(walker, ops[at], left, right)
    if at == len(ops) - 1 or not found:
        frame.stack.append(found)
        return
    frame.stack.append(right)
    push(frame, [to(values[at + 1]), (compare, (node, at + 1))])


def compared(walker, op, left, right):
    if op == "is" or op == "is not":
        return identical(left, right) == (op == "is")
    if op == "in" or op == "not in":
        return contains(walker, left, right) == (op == "in")
    return comparison(walker, op, left, right)


def evaluate_choice(walker, frame, node):
    push(frame, [test(node[1]), (choose, node)])


def choose(walker, frame, node):
    push(frame, [to(node[2] if frame.stack.pop() else node[3])])


def evaluate_attribute(walker, frame, node):
    push(frame, [to(node[1]), (get_attribute, node[2])])


def evaluate_subscript(walker, frame, node):
    push(frame, [*place_of(node), (get_slice if has_slice(node) else get_element, None)])


def place_of(node):
    """The tasks that evaluate the value and the index, or the bounds, of a Subscript."""
    return all_of([node[1], *node[2][1:]] if has_slice(node) else node[1:])


def evaluate_named(walker, frame, node):
    push(frame, [to(node[2]), (copy_entry, 1), (store_name, node[1])])


def evaluate_lambda(walker, frame, node):
    push(frame, function_of(node[1], node[2]))


def function_of(parameters, number):
    """The tasks that make the function of a scope with its defaults."""
    defaults, names, values = parameters
    return [*all_of(defaults), *all_of(values), (make_function, (number, len(defaults), names))]


def evaluate_comprehension(walker, frame, node):
    push(frame, [(make_function, (node[2], 0, ())), to(node[1]), (get_iterator, None), (call_on_top, None)])


def evaluate_yield(walker, frame, node):
    push(frame, [to(node[1]), (give, None)])


def evaluate_yield_from(walker, frame, node):
    push(frame, [to(node[1]), (get_source, None), (put_value, None), (delegate, None)])


def evaluate_call(walker, frame, node):
    _, function, arguments, keywords = node
    names = tuple([name for name, _ in keywords])
    values = [value for _, value in keywords]
    push(frame, [to(function), *all_of(arguments), *all_of(values), (call, (len(arguments) + len(values), names))])


def evaluate_spread_call(walker, frame, node):
    """Evaluate a call with Starred arguments or `**`."""
    _, function, arguments, keywords = node
    if len(arguments) == 1 and has_stars(arguments):
        # It is gone through at the call.
        row = to(arguments[0][1])
    else:
        row = (evaluate_tuple, ("Tuple", arguments))
    push(frame, [to(function), row, (build_dict, 0), *tasks_of_keywords(keywords), (call_with_rows, None)])


def tasks_of_keywords(keywords):
    """The tasks that put the keywords of a call into a dict: those that have names in a row at once."""
    tasks = []
    at = 0
    while at < len(keywords):
        end = at
        while end < len(keywords) and keywords[end][0] is not None:
            end += 1
        if end == at:
            tasks.append(to(keywords[at][1]))
            end = at + 1
        else:
            tasks.extend(all_of([value for _, value in keywords[at:end]]))
            names = tuple([name for name, _ in keywords[at:end]])
            tasks.extend([(put_value, names), (build_dict_by_keys, len(names))])
        tasks.append((merge, 1))
        at = end
    return tasks


def test(node):
    """The task that puts the truth of an expression on the stack; each value in it is asked for its own once."""
    word = node[0]
    if word == "BoolOp":
        return (test_junction, (node, 0))
    if word == "IfExp":
        return (test_choice, node)
    if word == "UnaryOp" and node[1] == "not":
        return (test_negation, node)
    return (test_value, node)


def test_value(walker, frame, node):
    push(frame, [to(node), (to_bool, None)])


def test_negation(walker, frame, node):
    push(frame, [test(node[2]), (invert_bool, None)])


def test_junction(walker, frame, part):
    node, at = part
    values = node[2]
    if at == len(values) - 1:
        push(frame, [test(values[at])])
    else:
        push(frame, [test(values[at]), (go_on_with_test, (node, at + 1))])


def go_on_with_test(walker, frame, part):
    """Take the truth of the next value of a BoolOp in the place of the one before, if that does not settle it."""
    node, _ = part
    if frame.stack[-1] != (node[1] == "or"):
        frame.stack.pop()
        test_junction(walker, frame, part)


def test_choice(walker, frame, node):
    push(frame, [test(node[1]), (choose_test, node)])


def choose_test(walker, frame, node):
    push(frame, [test(node[2] if frame.stack.pop() else node[3])])


EXPRESSIONS = {
    "Constant": evaluate_constant, "Name": evaluate_name, "Tuple": evaluate_tuple, "List": evaluate_list,
    "Dict": evaluate_dict, "BinOp": evaluate_binary, "UnaryOp": evaluate_unary, "BoolOp": evaluate_junction,
    "Compare": evaluate_comparison, "IfExp": evaluate_choice, "Call": evaluate_call, "SpreadCall": evaluate_spread_call,
    "Attribute": evaluate_attribute, "Subscript": evaluate_subscript, "Lambda": evaluate_lambda,
    "NamedExpr": evaluate_named, "ListComp": evaluate_comprehension, "DictComp": evaluate_comprehension,
    "GeneratorExp": evaluate_comprehension, "Yield": evaluate_yield, "YieldFrom": evaluate_yield_from,
}
