"""Which expressions and targets are right. What a LOOK function is, `looking.py` tells."""

from codewalk.looking import are_tuples, has_names, is_named, is_new_name

OPERATORS = {
    "+": True, "-": True, "*": True, "//": True, "mod": True, "**": True, "<<": True, ">>": True, "&": True,
    "|": True, "^": True,
}
SIGNS = {"-": True, "~": True, "not": True}
NO_PARAMETERS = ((), (), None, (), (), None)
COMPARISONS = {
    "==": True, "!=": True, "<": True, "<=": True, ">": True, ">=": True, "is": True, "is not": True, "in": True,
    "not in": True,
}


def look_at_expression(node, look, room):
    if not isinstance(node, tuple) or not node:
        return []
    word = node[0]
    if word == "Name":
        if len(node) == 2:
            name = node[1]
            # This is `is_named`, without a call where there are most names.
            if isinstance(name, str) and name in look.names or is_new_name(name, look):
                return None
        return []
    if word == "Constant":
        return None if len(node) == 2 and (node[1] is None or isinstance(node[1], (int, str))) else []
    if not isinstance(word, str) or word not in EXPRESSIONS:
        return []
    action = EXPRESSIONS[word]
    return action(node, look, room - 1) if room else look.put_off(action, node)


def look_at_row(row, look, room, at):
    """Look at the expressions of a row, which has this index in its node."""
    for k, node in enumerate(row):
        wrong = look_at_expression(node, look, room)
        if wrong is not None:
            wrong.extend([k, at])
            return wrong
    return None


def is_worded(node, word):
    return isinstance(node, tuple) and len(node) > 1 and node[0] == word


def look_at_members(row, look, room, at):
    """The same for elements or arguments, which may be Starred."""
    for k, node in enumerate(row):
        wrong = look_at_expression(node, look, room)
        if wrong is not None:
            if is_worded(node, "Starred"):
                wrong = look_at_only(node, look, room)
            if wrong is not None:
                wrong.extend([k, at])
                return wrong
    return None


def look_at_only(node, look, room):
    """Look at a node with an expression behind its word, and no more."""
    if len(node) != 2:
        return []
    wrong = look_at_expression(node[1], look, room)
    if wrong is not None:
        wrong.append(1)
    return wrong


def look_at_display(node, look, room):
    if len(node) != 2 or not isinstance(node[1], (list, tuple)):
        return []
    return look_at_members(node[1], look, room, 1)


def look_at_dict(node, look, room):
    if len(node) != 3:
        return []
    _, keys, values = node
    if not isinstance(keys, (list, tuple)) or not isinstance(values, (list, tuple)) or len(keys) != len(values):
        return []
    wrong = look_at_row(keys, look, room, 1)
    return look_at_row(values, look, room, 2) if wrong is None else wrong


def look_at_binary(node, look, room):
    if len(node) != 4 or not isinstance(node[2], str) or node[2] not in OPERATORS:
        return []
    wrong = look_at_expression(node[1], look, room)
    if wrong is not None:
        wrong.append(1)
        return wrong
    wrong = look_at_expression(node[3], look, room)
    if wrong is not None:
        wrong.append(3)
    return wrong


def look_at_unary(node, look, room):
    if len(node) != 3 or not isinstance(node[1], str) or node[1] not in SIGNS:
        return []
    wrong = look_at_expression(node[2], look, room)
    if wrong is not None:
        wrong.append(2)
    return wrong


def look_at_junction(node, look, room):
    if len(node) != 3:
        return []
    _, op, values = node
    if not isinstance(op, str) or (op != "and" and op != "or") or not isinstance(values, (list, tuple)):
        return []
    return look_at_row(values, look, room, 2) if len(values) > 1 else []


def look_at_comparison(node, look, room):
    if len(node) != 4:
        return []
    _, left, ops, values = node
    if not isinstance(ops, (list, tuple)) or not isinstance(values, (list, tuple)) or not 0 < len(ops) == len(values):
        return []
    for op in ops:
        if not isinstance(op, str) or op not in COMPARISONS:
            return []
    wrong = look_at_expression(left, look, room)
    if wrong is not None:
        wrong.append(1)
        return wrong
    return look_at_row(values, look, room, 3)


def look_at_choice(node, look, room):
    if len(node) != 4:
        return []
    for at in (1, 2, 3):
        wrong = look_at_expression(node[at], look, room)
        if wrong is not None:
            wrong.append(at)
            return wrong
    return None


def look_at_call(node, look, room):
    if len(node) != 4:
        return []
    _, called, arguments, keywords = node
    if not isinstance(arguments, (list, tuple)) or not are_tuples(keywords, 2):
        return []
    wrong = look_at_expression(called, look, room)
    if wrong is not None:
        wrong.append(1)
        return wrong
    wrong = look_at_members(arguments, look, room, 2)
    if wrong is not None or not keywords:
        return wrong
    return look_at_keywords(keywords, look, room)


def look_at_keywords(keywords, look, room):
    for k, (name, value) in enumerate(keywords):
        if name is not None and not is_named(name, look):
            return [k, 3]
        wrong = look_at_expression(value, look, room)
        if wrong is not None:
            wrong.extend([1, k, 3])
            return wrong
    return None


def look_at_attribute(node, look, room):
    if len(node) != 3 or not is_named(node[2], look):
        return []
    wrong = look_at_expression(node[1], look, room)
    if wrong is not None:
        wrong.append(1)
    return wrong


def look_at_subscript(node, look, room):
    if len(node) != 3:
        return []
    wrong = look_at_expression(node[1], look, room)
    if wrong is not None:
        wrong.append(1)
        return wrong
    wrong = look_at_expression(node[2], look, room)
    if wrong is not None:
        if is_worded(node[2], "Slice"):
            wrong = look_at_slice(node[2], look, room)
        if wrong is not None:
            wrong.append(2)
    return wrong


def look_at_slice(node, look, room):
    if len(node) != 3:
        return []
    for at in (1, 2):
        wrong = None if node[at] is None else look_at_expression(node[at], look, room)
        if wrong is not None:
            wrong.append(at)
            return wrong
    return None


def look_at_lambda(node, look, room):
    if len(node) != 3 or not isinstance(node[1], tuple) or len(node[1]) != 6:
        return []
    wrong = look_at_parameters(node[1], look, room)
    if wrong is not None:
        wrong.append(1)
        return wrong
    wrong = look_at_expression(node[2], look, room)
    if wrong is not None:
        wrong.append(2)
    return wrong


def look_at_parameters(parameters, look, room):
    """Look at the parameters of a Lambda or a Function, a tuple of their length."""
    if parameters == NO_PARAMETERS:
        return None
    names, defaults, rest, only, onlydefaults, more = parameters
    if not has_names(names, look) or not has_names(only, look):
        return []
    if not isinstance(defaults, (list, tuple)) or len(defaults) > len(names):
        return []
    if not isinstance(onlydefaults, (list, tuple)) or len(onlydefaults) != len(only):
        return []
    if rest is not None and not is_named(rest, look) or more is not None and not is_named(more, look):
        return []
    wrong = look_at_row(defaults, look, room, 1) if defaults else None
    if wrong is not None:
        return wrong
    for k, node in enumerate(onlydefaults):
        wrong = None if node is None else look_at_expression(node, look, room)
        if wrong is not None:
            wrong.extend([k, 4])
            return wrong
    return None


def look_at_named(node, look, room):
    if len(node) != 3 or not is_named(node[1], look):
        return []
    wrong = look_at_expression(node[2], look, room)
    if wrong is not None:
        wrong.append(2)
    return wrong


def look_at_comprehension(node, look, room):
    """Look at what stands ahead of the clauses, which are last, and at these."""
    last = 3 if node[0] == "DictComp" else 2
    if len(node) != last + 1 or not are_tuples(node[last], 3) or len(node[last]) == 0:
        return []
    for at in range(1, last):
        wrong = look_at_expression(node[at], look, room)
        if wrong is not None:
            wrong.append(at)
            return wrong
    for k, clause in enumerate(node[last]):
        wrong = look_at_clause(clause, look, room)
        if wrong is not None:
            wrong.extend([k, last])
            return wrong
    return None


def look_at_clause(clause, look, room):
    target, value, tests = clause
    if not isinstance(tests, (list, tuple)):
        return []
    wrong = look_at_target(target, look, room)
    if wrong is not None:
        wrong.append(0)
        return wrong
    wrong = look_at_expression(value, look, room)
    if wrong is not None:
        wrong.append(1)
        return wrong
    return look_at_row(tests, look, room, 2)


def look_at_yield(node, look, room):
    return None if len(node) == 2 and node[1] is None else look_at_only(node, look, room)


EXPRESSIONS = {
    "Tuple": look_at_display, "List": look_at_display, "Dict": look_at_dict, "BinOp": look_at_binary,
    "UnaryOp": look_at_unary, "BoolOp": look_at_junction, "Compare": look_at_comparison, "IfExp": look_at_choice,
    "Call": look_at_call, "Attribute": look_at_attribute, "Subscript": look_at_subscript, "Lambda": look_at_lambda,
    "NamedExpr": look_at_named, "ListComp": look_at_comprehension, "GeneratorExp": look_at_comprehension,
    "DictComp": look_at_comprehension, "Yield": look_at_yield, "YieldFrom": look_at_only,
}


def look_at_target(node, look, room):
    if not isinstance(node, tuple) or not node:
        return []
    word = node[0]
    if word == "Name":
        if len(node) == 2:
            name = node[1]
            if isinstance(name, str) and name in look.names or is_new_name(name, look):
                return None
        return []
    if not isinstance(word, str) or word not in TARGETS:
        return []
    action = TARGETS[word]
    return action(node, look, room - 1) if room else look.put_off(action, node)


def look_at_pieces(node, look, room):
    """Look at a Tuple or List as a target, of whose elements at most one is Starred."""
    if len(node) != 2 or not isinstance(node[1], (list, tuple)):
        return []
    for k, piece in enumerate(node[1]):
        wrong = look_at_target(piece, look, room)
        if wrong is not None:
            # The node itself goes ahead of its elements, and of what lies too deep in them.
            if has_two_stars(node[1]):
                look.deep = None
                return []
            if is_worded(piece, "Starred"):
                wrong = look_at_starred_target(piece, look, room)
            if wrong is not None:
                wrong.extend([k, 1])
                return wrong
    return None


def has_two_stars(row):
    """Whether two elements are Starred; one of another length is wrong itself, when its turn comes."""
    return len([piece for piece in row if is_worded(piece, "Starred") and len(piece) == 2]) > 1


def look_at_starred_target(node, look, room):
    if len(node) != 2:
        return []
    wrong = look_at_target(node[1], look, room)
    if wrong is not None:
        wrong.append(1)
    return wrong


def look_at_single(node, look, room):
    """Look at a target that is no Tuple and no List."""
    return [] if is_worded(node, "Tuple") or is_worded(node, "List") else look_at_target(node, look, room)


def look_at_deletion(node, look, room):
    """Look at a target of a Delete, which has no Slice; one of another length is wrong itself, when its turn comes."""
    if is_worded(node, "Subscript") and len(node) == 3 and is_worded(node[2], "Slice") and len(node[2]) == 3:
        return []
    return look_at_single(node, look, room)


TARGETS = {
    "Attribute": look_at_attribute, "Subscript": look_at_subscript, "Tuple": look_at_pieces, "List": look_at_pieces,
}
