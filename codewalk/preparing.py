"""Making a right tree ready for writing rows: constants folded, scopes numbered, what may not stand there refused.

What comes out has the forms of trees, with tuples as constants, too, but for these:
- what is missing in a Return, a Yield or a Slice is the constant None;
- a Call with Starred arguments or `**` is a SpreadCall;
- where a scope is opened, its number stands last; parameters are the defaults, the names of the onlydefaults that are
  given, and these; a comprehension is its word, the value of its first clause and the number;
- what the scope itself runs is put into its `content`: statements, the value of a Lambda, or (values, clauses) of a
  comprehension, where the value of the first clause is missing.
"""

from codewalk.errors import NoProgram
from codewalk.folding import folded_binary, folded_unary
from codewalk.shapes import are_constants, constants_of, has_stars, is_constant

NONE = ("Constant", None)

# Of several faults in one line the first of these is told.
FAULTS = ("return", "break", "continue", "bare", "twice", "yield")


class Preparation:
    """Where the preparation of a tree is, and the faults that it has met."""

    def __init__(self, scopes):
        self.scopes = scopes
        self.opened = 0
        self.scope = None
        self.line = 1
        self.loop = False
        self.faults = []

    def enter(self):
        """Go into the next scope; they are opened in the order of their numbers."""
        self.scope = self.scopes[self.opened]
        self.opened += 1
        return self.scope

    def refuse(self, why):
        self.faults.append((self.line, FAULTS.index(why)))


def prepare(tree, scopes):
    """Give each scope of a right tree its content. Raises NoProgram."""
    state = Preparation(scopes)
    scope = state.enter()
    scope.content = statements(state, tree)
    if state.faults:
        line, rank = min(state.faults)
        raise NoProgram(line, FAULTS[rank])


def statements(state, row):
    found = []
    for node in row:
        state.line = node[1]
        action = STATEMENTS[node[0]]
        found.append(action(state, node))
    return found


def value_of(state, node):
    """An expression, made ready."""
    word = node[0]
    if word == "Name" or word == "Constant":
        return node
    action = EXPRESSIONS[word]
    return action(state, node)


def values_of(state, row):
    return [value_of(state, node) for node in row]


def value_or_none(state, node):
    return None if node is None else value_of(state, node)


def value_or_constant(state, node):
    return NONE if node is None else value_of(state, node)


def target_of(state, node):
    word = node[0]
    if word == "Name":
        return node
    if word == "Starred":
        return (word, target_of(state, node[1]))
    if word == "Tuple" or word == "List":
        return (word, targets_of(state, node[1]))
    return value_of(state, node)


def targets_of(state, row):
    return [target_of(state, node) for node in row]


def tuple_of(state, node):
    row = values_of(state, node[1])
    return ("Constant", constants_of(row)) if are_constants(row) else ("Tuple", row)


def list_of(state, node):
    return ("List", values_of(state, node[1]))


def dict_of(state, node):
    keys = values_of(state, node[1])
    return ("Dict", keys, values_of(state, node[2]))


def binary_of(state, node):
    left = value_of(state, node[1])
    right = value_of(state, node[3])
    if is_constant(left) and is_constant(right):
        found = folded_binary(node[2], left[1], right[1])
        if found:
            return ("Constant", found[0])
    return ("BinOp", left, node[2], right)


def unary_of(state, node):
    value = value_of(state, node[2])
    if is_constant(value):
        found = folded_unary(node[1], value[1])
        if found:
            return ("Constant", found[0])
    return ("UnaryOp", node[1], value)


def junction_of(state, node):
    return ("BoolOp", node[1], values_of(state, node[2]))


def comparison_of(state, node):
    left = value_of(state, node[1])
    return ("Compare", left, node[2], values_of(state, node[3]))


def choice_of(state, node):
    test = value_of(state, node[1])
    value = value_of(state, node[2])
    return ("IfExp", test, value, value_of(state, node[3]))


def call_of(state, node):
    called = value_of(state, node[1])
    arguments = values_of(state, node[2])
    word = "SpreadCall" if has_stars(arguments) else "Call"
    if not node[3]:
        return (word, called, arguments, [])
    keywords = [(name, value_of(state, value)) for name, value in node[3]]
    names = [name for name, _ in keywords if name is not None]
    if len(set(names)) < len(names):
        state.refuse("twice")
    return (word if len(names) == len(keywords) else "SpreadCall", called, arguments, keywords)


def attribute_of(state, node):
    return ("Attribute", value_of(state, node[1]), node[2])


def subscript_of(state, node):
    value = value_of(state, node[1])
    return ("Subscript", value, value_of(state, node[2]))


def slice_of(state, node):
    lower = value_or_constant(state, node[1])
    return ("Slice", lower, value_or_constant(state, node[2]))


def lambda_of(state, node):
    around = state.scope
    parameters = parameters_of(state, node[1])
    scope = state.enter()
    scope.content = value_of(state, node[2])
    state.scope = around
    return ("Lambda", parameters, scope.number)


def named_of(state, node):
    return ("NamedExpr", node[1], value_of(state, node[2]))


def comprehension_of(state, node):
    around = state.scope
    clauses = node[-1]
    first = value_of(state, clauses[0][1])
    scope = state.enter()
    ready = [clause_of(state, clause, at > 0) for at, clause in enumerate(clauses)]
    scope.content = (values_of(state, node[1:-1]), ready)
    state.scope = around
    return (node[0], first, scope.number)


def clause_of(state, clause, further):
    target = target_of(state, clause[0])
    value = value_of(state, clause[1]) if further else None
    return (target, value, values_of(state, clause[2]))


def yield_of(state, node):
    if not state.scope.is_function():
        state.refuse("yield")
    return (node[0], value_or_constant(state, node[1]))


def starred_of(state, node):
    return ("Starred", value_of(state, node[1]))


def parameters_of(state, parameters):
    defaults = values_of(state, parameters[1])
    if not parameters[3]:
        return (defaults, (), [])
    given = [(name, value) for name, value in zip(parameters[3], parameters[4]) if value is not None]
    return (defaults, tuple([name for name, _ in given]), [value_of(state, value) for _, value in given])


def plain(_, node):
    return node


def expr(state, node):
    return ("Expr", node[1], value_of(state, node[2]))


def assign(state, node):
    targets = targets_of(state, node[2])
    return ("Assign", node[1], targets, value_of(state, node[3]))


def in_place(state, node):
    target = target_of(state, node[2])
    return ("AugAssign", node[1], target, node[3], value_of(state, node[4]))


def delete(state, node):
    return ("Delete", node[1], targets_of(state, node[2]))


def break_off(state, node):
    if not state.loop:
        state.refuse("break")
    return node


def continue_on(state, node):
    if not state.loop:
        state.refuse("continue")
    return node


def give_back(state, node):
    if not state.scope.is_function():
        state.refuse("return")
    return ("Return", node[1], value_or_constant(state, node[2]))


def throw(state, node):
    value = value_or_none(state, node[2])
    return ("Raise", node[1], value, value_or_none(state, node[3]))


def claim(state, node):
    test = value_of(state, node[2])
    return ("Assert", node[1], test, value_or_none(state, node[3]))


def branch(state, node):
    test = value_of(state, node[2])
    body = statements(state, node[3])
    return ("If", node[1], test, body, statements(state, node[4]))


def repeat(state, node):
    test = value_of(state, node[2])
    body = loop_body(state, node[3])
    return ("While", node[1], test, body, statements(state, node[4]))


def each(state, node):
    target = target_of(state, node[2])
    value = value_of(state, node[3])
    body = loop_body(state, node[4])
    return ("For", node[1], target, value, body, statements(state, node[5]))


def loop_body(state, row):
    before = state.loop
    state.loop = True
    body = statements(state, row)
    state.loop = before
    return body


def attempt(state, node):
    body = statements(state, node[2])
    handlers = [handler(state, node[3], at) for at in range(len(node[3]))]
    orelse = statements(state, node[4])
    return ("Try", node[1], body, handlers, orelse, statements(state, node[5]))


def handler(state, handlers, at):
    line, kind, name, body = handlers[at]
    state.line = line
    if kind is None and at < len(handlers) - 1:
        state.refuse("bare")
    kind = value_or_none(state, kind)
    return (line, kind, name, statements(state, body))


def guard(state, node):
    items = [(value_of(state, value), None if target is None else target_of(state, target))
             for value, target in node[2]]
    return ("With", node[1], items, statements(state, node[3]))


def function(state, node):
    around = state.scope
    parameters = parameters_of(state, node[3])
    decorators = values_of(state, node[5])
    scope = inner_body(state, node[4])
    state.scope = around
    return ("Function", node[1], node[2], parameters, decorators, scope.number)


def class_statement(state, node):
    around = state.scope
    decorators = values_of(state, node[5])
    bases = values_of(state, node[3])
    scope = inner_body(state, node[4])
    state.scope = around
    return ("Class", node[1], node[2], bases, decorators, scope.number)


def inner_body(state, row):
    """Go into the next scope, which has these statements, and out of its loops around."""
    before = state.loop
    state.loop = False
    scope = state.enter()
    scope.content = statements(state, row)
    state.loop = before
    return scope


EXPRESSIONS = {
    "Tuple": tuple_of, "List": list_of, "Dict": dict_of, "BinOp": binary_of, "UnaryOp": unary_of,
    "BoolOp": junction_of, "Compare": comparison_of, "IfExp": choice_of, "Call": call_of, "Attribute": attribute_of,
    "Subscript": subscript_of, "Slice": slice_of, "Lambda": lambda_of, "NamedExpr": named_of,
    "ListComp": comprehension_of, "GeneratorExp": comprehension_of, "DictComp": comprehension_of, "Yield": yield_of,
    "YieldFrom": yield_of, "Starred": starred_of,
}

STATEMENTS = {
    "Expr": expr, "Assign": assign, "AugAssign": in_place, "Delete": delete, "Pass": plain, "Break": break_off,
    "Continue": continue_on, "Return": give_back, "Raise": throw, "Assert": claim, "Global": plain, "Nonlocal": plain,
    "If": branch, "While": repeat, "For": each, "Try": attempt, "With": guard, "Function": function,
    "Class": class_statement,
}
