"""Writing the rows of expressions and targets."""

from codewalk.shapes import are_constants, constants_of, has_slice, has_stars
from codewalk.writing import put_comparison, put_jump


def write(out, node):
    """Write the rows of an expression."""
    action = EXPRESSIONS[node[0]]
    action(out, node)


def write_row(out, row):
    for node in row:
        write(out, node)


def write_constant(out, node):
    out.put("LOAD_CONST", node[1])


def write_name(out, node):
    out.load(node[1])


def write_tuple(out, node):
    row = node[1]
    if has_stars(row):
        write_with_stars(out, row)
        out.put("CALL_INTRINSIC_1", 6)
    else:
        write_row(out, row)
        out.put("BUILD_TUPLE", len(row))


def write_list(out, node):
    row = node[1]
    if has_stars(row):
        write_with_stars(out, row)
    elif len(row) > 2 and are_constants(row):
        out.put("BUILD_LIST", 0)
        out.put("LOAD_CONST", constants_of(row))
        out.put("LIST_EXTEND", 1)
    else:
        write_row(out, row)
        out.put("BUILD_LIST", len(row))


def write_with_stars(out, row):
    """Write the rows of a list with Starred ones among its elements."""
    ahead = 0
    while row[ahead][0] != "Starred":
        write(out, row[ahead])
        ahead += 1
    out.put("BUILD_LIST", ahead)
    for node in row[ahead:]:
        if node[0] == "Starred":
            write(out, node[1])
            out.put("LIST_EXTEND", 1)
        else:
            write(out, node)
            out.put("LIST_APPEND", 1)


def write_dict(out, node):
    _, keys, values = node
    if len(keys) > 1 and are_constants(keys):
        write_row(out, values)
        out.put("LOAD_CONST", constants_of(keys))
        out.put("BUILD_CONST_KEY_MAP", len(keys))
        return
    for key, value in zip(keys, values):
        write(out, key)
        write(out, value)
    out.put("BUILD_MAP", len(keys))


def write_binary(out, node):
    write(out, node[1])
    write(out, node[3])
    out.put("BINARY_OP", node[2])


def write_unary(out, node):
    write(out, node[2])
    if node[1] == "not":
        out.put("TO_BOOL")
        out.put("UNARY_NOT")
    else:
        out.put("UNARY_NEGATIVE" if node[1] == "-" else "UNARY_INVERT")


def write_junction(out, node):
    _, op, values = node
    end = out.label()
    jump = "POP_JUMP_IF_FALSE" if op == "and" else "POP_JUMP_IF_TRUE"
    for value in values[:-1]:
        write(out, value)
        out.put("COPY", 1)
        out.put("TO_BOOL")
        out.put(jump, end)
        out.put("POP_TOP")
    write(out, values[-1])
    out.mark(end)


def write_comparison(out, node):
    _, left, ops, values = node
    if len(ops) == 1:
        write(out, left)
        write(out, values[0])
        put_comparison(out, ops[0])
        return
    cleanup = out.label()
    end = out.label()
    write_chain(out, node, cleanup, True)
    out.put("JUMP", end)
    out.mark(cleanup)
    out.put("SWAP", 2)
    out.put("POP_TOP")
    out.mark(end)


def write_chain(out, node, cleanup, keep):
    """Write comparisons one behind the other; a false one jumps, with its result or without one on top."""
    _, left, ops, values = node
    write(out, left)
    for at in range(len(ops) - 1):
        write(out, values[at])
        out.put("SWAP", 2)
        out.put("COPY", 2)
        put_comparison(out, ops[at])
        if keep:
            out.put("COPY", 1)
        out.put("TO_BOOL")
        out.put("POP_JUMP_IF_FALSE", cleanup)
        if keep:
            out.put("POP_TOP")
    write(out, values[-1])
    put_comparison(out, ops[-1])


def write_choice(out, node):
    end = out.label()
    orelse = out.label()
    write_test(out, node[1], orelse, False)
    write(out, node[2])
    out.put("JUMP", end)
    out.mark(orelse)
    write(out, node[3])
    out.mark(end)


def write_attribute(out, node):
    write(out, node[1])
    out.put("LOAD_ATTR", (node[2], False))


def write_subscript(out, node):
    write_place(out, node)
    out.put("BINARY_SLICE" if has_slice(node) else "BINARY_SUBSCR")


def write_place(out, node):
    """Write the value and the index, or the bounds, of a Subscript."""
    write(out, node[1])
    if has_slice(node):
        write(out, node[2][1])
        write(out, node[2][2])
    else:
        write(out, node[2])


def write_lambda(out, node):
    write_function(out, node[1], node[2])


def write_function(out, parameters, number):
    """Write the rows that make a function with its defaults."""
    defaults, names, values = parameters
    if defaults and are_constants(defaults):
        out.put("LOAD_CONST", constants_of(defaults))
    elif defaults:
        write_row(out, defaults)
        out.put("BUILD_TUPLE", len(defaults))
    if names:
        write_row(out, values)
        out.put("LOAD_CONST", names)
        out.put("BUILD_CONST_KEY_MAP", len(names))
    out.make(number)
    if names:
        out.put("SET_FUNCTION_ATTRIBUTE", 2)
    if defaults:
        out.put("SET_FUNCTION_ATTRIBUTE", 1)


def write_named(out, node):
    write(out, node[2])
    out.put("COPY", 1)
    out.store(node[1])


def write_comprehension(out, node):
    out.make(node[2])
    write(out, node[1])
    out.put("GET_ITER")
    out.put("CALL", 0)


def write_yield(out, node):
    write(out, node[1])
    out.put("YIELD_VALUE", 0)
    out.put("RESUME", 1)


def write_yield_from(out, node):
    write(out, node[1])
    out.put("GET_YIELD_FROM_ITER")
    out.put("LOAD_CONST", None)
    start = out.label()
    failed = out.label()
    end = out.label()
    out.mark(start)
    out.put("SEND", end)
    out.put("SETUP_FINALLY", failed)
    out.put("YIELD_VALUE", 1)
    out.put("POP_BLOCK")
    out.put("RESUME", 2)
    out.put("JUMP_NO_INTERRUPT", start)
    out.mark(failed)
    out.put("CLEANUP_THROW")
    out.mark(end)
    out.put("END_SEND")


def write_call(out, node):
    _, function, arguments, keywords = node
    if function[0] == "Attribute":
        write(out, function[1])
        out.put("LOAD_ATTR", (function[2], True))
    else:
        write(out, function)
        out.put("PUSH_NULL")
    write_row(out, arguments)
    if keywords:
        write_row(out, [value for _, value in keywords])
        out.put("LOAD_CONST", tuple([name for name, _ in keywords]))
        out.put("CALL_KW", len(arguments) + len(keywords))
    else:
        out.put("CALL", len(arguments))


def write_spread_call(out, node):
    """Write a call with Starred arguments or `**`."""
    _, function, arguments, keywords = node
    write(out, function)
    out.put("PUSH_NULL")
    if len(arguments) == 1 and arguments[0][0] == "Starred":
        write(out, arguments[0][1])
    elif are_constants(arguments):
        out.put("LOAD_CONST", constants_of(arguments))
    else:
        write_tuple(out, ("Tuple", arguments))
    if keywords:
        write_keywords(out, keywords)
    out.put("CALL_FUNCTION_EX", 1 if keywords else 0)


def write_keywords(out, keywords):
    """Write the rows of the dict of the keywords of a call."""
    if keywords[0][0] is None:
        out.put("BUILD_MAP", 0)
    at = 0
    while at < len(keywords):
        end = at
        while end < len(keywords) and keywords[end][0] is not None:
            end += 1
        if end == at:
            write(out, keywords[at][1])
            end = at + 1
        else:
            write_piece(out, keywords[at:end])
        if at > 0 or keywords[0][0] is None:
            out.put("DICT_MERGE", 1)
        at = end


def write_piece(out, keywords):
    """Write the rows of a dict of keywords that have names."""
    if len(keywords) == 1:
        out.put("LOAD_CONST", keywords[0][0])
        write(out, keywords[0][1])
        out.put("BUILD_MAP", 1)
        return
    write_row(out, [value for _, value in keywords])
    out.put("LOAD_CONST", tuple([name for name, _ in keywords]))
    out.put("BUILD_CONST_KEY_MAP", len(keywords))


EXPRESSIONS = {
    "Constant": write_constant, "Name": write_name, "Tuple": write_tuple, "List": write_list, "Dict": write_dict,
    "BinOp": write_binary, "UnaryOp": write_unary, "BoolOp": write_junction, "Compare": write_comparison,
    "IfExp": write_choice, "Call": write_call, "SpreadCall": write_spread_call, "Attribute": write_attribute,
    "Subscript": write_subscript, "Lambda": write_lambda, "NamedExpr": write_named, "ListComp": write_comprehension,
    "DictComp": write_comprehension, "GeneratorExp": write_comprehension, "Yield": write_yield,
    "YieldFrom": write_yield_from,
}


def write_test(out, node, label, when):
    """Write a jump to the label if the truth of the expression is `when`; otherwise control goes onward."""
    word = node[0]
    if word == "UnaryOp" and node[1] == "not":
        write_test(out, node[2], label, not when)
    elif word == "BoolOp":
        write_test_of_junction(out, node, label, when)
    elif word == "IfExp":
        write_test_of_choice(out, node, label, when)
    elif word == "Compare" and len(node[2]) > 1:
        write_test_of_chain(out, node, label, when)
    else:
        write(out, node)
        put_jump(out, label, when)


def write_test_of_junction(out, node, label, when):
    _, op, values = node
    if when == (op == "or"):
        for value in values:
            write_test(out, value, label, when)
        return
    onward = out.label()
    for value in values[:-1]:
        write_test(out, value, onward, not when)
    write_test(out, values[-1], label, when)
    out.mark(onward)


def write_test_of_choice(out, node, label, when):
    end = out.label()
    orelse = out.label()
    write_test(out, node[1], orelse, False)
    write_test(out, node[2], label, when)
    out.put("JUMP", end)
    out.mark(orelse)
    write_test(out, node[3], label, when)
    out.mark(end)


def write_test_of_chain(out, node, label, when):
    cleanup = out.label()
    end = out.label()
    write_chain(out, node, cleanup, False)
    put_jump(out, label, when)
    out.put("JUMP", end)
    out.mark(cleanup)
    out.put("POP_TOP")
    if not when:
        out.put("JUMP", label)
    out.mark(end)


def write_target(out, node):
    """Write the rows that store the top of the stack into a target."""
    word = node[0]
    if word == "Name":
        out.store(node[1])
    elif word == "Attribute":
        write(out, node[1])
        out.put("STORE_ATTR", node[2])
    elif word == "Subscript":
        write_place(out, node)
        out.put("STORE_SLICE" if has_slice(node) else "STORE_SUBSCR")
    else:
        write_pieces(out, node[1])


def write_pieces(out, pieces):
    words = [piece[0] for piece in pieces]
    if "Starred" in words:
        ahead = words.index("Starred")
        out.put("UNPACK_EX", (ahead, len(pieces) - ahead - 1))
    else:
        out.put("UNPACK_SEQUENCE", len(pieces))
    for piece in pieces:
        write_target(out, piece[1] if piece[0] == "Starred" else piece)
