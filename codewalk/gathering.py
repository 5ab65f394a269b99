"""Going through a right tree: which scopes there are, and what the tree says of their names."""

from codewalk.binding import Walk, bind_named, declare, names_of, take_parameters
from codewalk.errors import NoProgram

# The word and the name of the scope of each comprehension.
COMPREHENSIONS = {
    "ListComp": ("list", "<listcomp>"),
    "DictComp": ("dict", "<dictcomp>"),
    "GeneratorExp": ("generator", "<genexpr>"),
}


def gathered(tree):
    """The scopes of a right tree, by their numbers. Raises NoProgram."""
    walk = Walk()
    walk.enter("program", "<module>")
    visit_statements(walk, tree)
    return walk.scopes


def visit_statements(walk, row):
    for node in row:
        walk.line = node[1]
        # Those that are not there have nothing inside of them, and no names.
        visit_parts = STATEMENTS.get(node[0])
        if visit_parts is not None:
            visit_parts(walk, node)


def visit(walk, node):
    """Go through an expression."""
    word = node[0]
    if word == "Name":
        walk.scope.used[node[1]] = True
    elif word != "Constant":
        visit_parts = EXPRESSIONS[word]
        visit_parts(walk, node)


def visit_row(walk, row):
    for node in row:
        visit(walk, node)


def visit_optional(walk, node):
    if node is not None:
        visit(walk, node)


def visit_target(walk, node):
    word = node[0]
    if word == "Name":
        walk.scope.bound[node[1]] = True
    elif word == "Tuple" or word == "List":
        for piece in node[1]:
            visit_target(walk, piece)
    elif word == "Starred":
        visit_target(walk, node[1])
    else:
        visit(walk, node)


def visit_elements(walk, node):
    visit_row(walk, node[1])


def visit_value(walk, node):
    visit(walk, node[1])


def visit_operand(walk, node):
    visit(walk, node[2])


def visit_operands(walk, node):
    visit_row(walk, node[2])


def visit_dict(walk, node):
    visit_row(walk, node[1])
    visit_row(walk, node[2])


def visit_binop(walk, node):
    visit(walk, node[1])
    visit(walk, node[3])


def visit_compare(walk, node):
    visit(walk, node[1])
    visit_row(walk, node[3])


def visit_choice(walk, node):
    visit_row(walk, node[1:])


def visit_call(walk, node):
    visit(walk, node[1])
    for argument in node[2]:
        visit(walk, argument)
    for _, value in node[3]:
        visit(walk, value)


def visit_subscript(walk, node):
    visit(walk, node[1])
    visit(walk, node[2])


def visit_slice(walk, node):
    visit_optional(walk, node[1])
    visit_optional(walk, node[2])


def visit_yield(walk, node):
    scope = walk.scope
    if scope.is_comprehension():
        raise NoProgram(walk.line, "inside")
    scope.yields = True
    scope.become_generator()
    visit_optional(walk, node[1])


def visit_named(walk, node):
    bind_named(walk, node[1])
    visit(walk, node[2])


def visit_lambda(walk, node):
    visit_defaults(walk, node[1])
    walk.enter("lambda", "<lambda>")
    take_parameters(walk, node[1])
    visit(walk, node[2])
    walk.leave()


def visit_comprehension(walk, node):
    word, name = COMPREHENSIONS[node[0]]
    clauses = node[-1]
    visit_iterable(walk, clauses[0][1])
    walk.enter(word, name)
    scope = walk.scope
    scope.taken = ((".0",), (), None, None)
    scope.parameters[".0"] = True
    scope.bound[".0"] = True
    if word == "generator":
        scope.become_generator()
    for clause in clauses:
        for turned in names_of(clause[0]):
            scope.turned[turned] = True
    for at, clause in enumerate(clauses):
        visit_target(walk, clause[0])
        if at > 0:
            visit_iterable(walk, clause[1])
        visit_row(walk, clause[2])
    visit_row(walk, node[1:-1])
    walk.leave()


def visit_iterable(walk, node):
    """Go through the value of a clause."""
    before = walk.iterable
    walk.iterable = True
    visit(walk, node)
    walk.iterable = before


def visit_assign(walk, node):
    for target in node[2]:
        visit_target(walk, target)
    visit(walk, node[3])


def visit_in_place(walk, node):
    target = node[2]
    visit(walk, target)
    if target[0] == "Name":
        walk.scope.bound[target[1]] = True
    visit(walk, node[4])


def visit_delete(walk, node):
    for target in node[2]:
        visit_target(walk, target)


def visit_return(walk, node):
    visit_optional(walk, node[2])


def visit_raise(walk, node):
    visit_optional(walk, node[2])
    visit_optional(walk, node[3])


def visit_assert(walk, node):
    visit(walk, node[2])
    visit_optional(walk, node[3])


def visit_declaration(walk, node):
    for name in node[2]:
        declare(walk, node[0], name)


def visit_branches(walk, node):
    visit(walk, node[2])
    visit_statements(walk, node[3])
    visit_statements(walk, node[4])


def visit_for(walk, node):
    visit_target(walk, node[2])
    visit(walk, node[3])
    visit_statements(walk, node[4])
    visit_statements(walk, node[5])


def visit_try(walk, node):
    visit_statements(walk, node[2])
    for line, kind, name, body in node[3]:
        walk.line = line
        visit_optional(walk, kind)
        if name is not None:
            walk.scope.bound[name] = True
        visit_statements(walk, body)
    visit_statements(walk, node[4])
    visit_statements(walk, node[5])


def visit_with(walk, node):
    for value, target in node[2]:
        visit(walk, value)
        if target is not None:
            visit_target(walk, target)
    visit_statements(walk, node[3])


def visit_function(walk, node):
    walk.scope.bound[node[2]] = True
    visit_defaults(walk, node[3])
    visit_row(walk, node[5])
    walk.enter("function", node[2])
    take_parameters(walk, node[3])
    visit_statements(walk, node[4])
    walk.leave()


def visit_class(walk, node):
    walk.scope.bound[node[2]] = True
    visit_row(walk, node[5])
    visit_row(walk, node[3])
    walk.enter("class", node[2])
    visit_statements(walk, node[4])
    walk.leave()


def visit_defaults(walk, parameters):
    _, defaults, _, _, onlydefaults, _ = parameters
    if defaults:
        visit_row(walk, defaults)
    for value in onlydefaults:
        visit_optional(walk, value)


EXPRESSIONS = {
    "Tuple": visit_elements, "List": visit_elements, "Dict": visit_dict, "BinOp": visit_binop,
    "UnaryOp": visit_operand, "BoolOp": visit_operands, "Compare": visit_compare, "IfExp": visit_choice,
    "Call": visit_call, "Attribute": visit_value, "Subscript": visit_subscript, "Slice": visit_slice,
    "Lambda": visit_lambda, "NamedExpr": visit_named, "ListComp": visit_comprehension,
    "GeneratorExp": visit_comprehension, "DictComp": visit_comprehension, "Yield": visit_yield,
    "YieldFrom": visit_yield, "Starred": visit_value,
}

STATEMENTS = {
    "Expr": visit_operand, "Assign": visit_assign, "AugAssign": visit_in_place, "Delete": visit_delete,
    "Return": visit_return, "Raise": visit_raise, "Assert": visit_assert, "Global": visit_declaration,
    "Nonlocal": visit_declaration, "If": visit_branches, "While": visit_branches, "For": visit_for, "Try": visit_try,
    "With": visit_with, "Function": visit_function, "Class": visit_class,
}
