"""Trees made anew, with tuples for rows and with something changed in them.

Nodes are gone through in the order in which scopes are opened, so that these have their numbers.
"""


class Rebuilding:
    """A walk through a right tree that makes it anew as it is."""

    def __init__(self):
        self.opened = 0
        # The number of the scope in which it is.
        self.scope = 0

    def changed_line(self, line):
        return line

    def changed_name(self, name):
        """What a name becomes that the present scope binds or uses."""
        return name

    def enter(self):
        """Go into the next scope; the number of the one around."""
        around = self.scope
        self.opened += 1
        self.scope = self.opened
        return around


def rebuilt(state, node):
    """A node that has a word, or None."""
    if node is None:
        return None
    action = ACTIONS.get(node[0])
    if action is not None:
        return action(state, node)
    return tuple([rebuilt_part(state, part) for part in node])


def rebuilt_row(state, row):
    return tuple([rebuilt(state, node) for node in row])


def rebuilt_part(state, part):
    """A part of a node that is its word or another string, its line, a node or a row of nodes, or missing."""
    if isinstance(part, int):
        return state.changed_line(part)
    if not isinstance(part, (list, tuple)):
        return part
    is_node = len(part) > 0 and isinstance(part[0], str)
    return rebuilt(state, part) if is_node else rebuilt_row(state, part)


def name(state, node):
    return (node[0], state.changed_name(node[1]))


def constant(state, node):
    return node


def named(state, node):
    # In a comprehension it binds further around, and so it is no local there.
    return (node[0], state.changed_name(node[1]), rebuilt(state, node[2]))


def comparison(state, node):
    word, left, ops, values = node
    left = rebuilt(state, left)
    return (word, left, tuple(ops), rebuilt_row(state, values))


def call(state, node):
    word, called, arguments, keywords = node
    called = rebuilt(state, called)
    arguments = rebuilt_row(state, arguments)
    return (word, called, arguments, tuple([(given, rebuilt(state, value)) for given, value in keywords]))


def lambda_of(state, node):
    parameters = rebuilt_parameters(state, node[1])
    around = state.enter()
    value = rebuilt(state, node[2])
    state.scope = around
    return (node[0], parameters, value)


def rebuilt_parameters(state, parameters):
    names, defaults, rest, only, onlydefaults, more = parameters
    defaults = rebuilt_row(state, defaults)
    return (tuple(names), defaults, rest, tuple(only), rebuilt_row(state, onlydefaults), more)


def comprehension(state, node):
    clauses = node[-1]
    first = rebuilt(state, clauses[0][1])
    around = state.enter()
    found = []
    for at, (target, value, tests) in enumerate(clauses):
        target = rebuilt(state, target)
        value = first if at == 0 else rebuilt(state, value)
        found.append((target, value, rebuilt_row(state, tests)))
    values = rebuilt_row(state, node[1:-1])
    state.scope = around
    return (node[0], *values, tuple(found))


def declaration(state, node):
    word, line, names = node
    return (word, state.changed_line(line), tuple(names))


def attempt(state, node):
    word, line, body, handlers, orelse, finalbody = node
    body = rebuilt_row(state, body)
    handlers = tuple([handler(state, part) for part in handlers])
    orelse = rebuilt_row(state, orelse)
    return (word, state.changed_line(line), body, handlers, orelse, rebuilt_row(state, finalbody))


def handler(state, part):
    line, kind, held, body = part
    kind = rebuilt(state, kind)
    held = None if held is None else state.changed_name(held)
    return (state.changed_line(line), kind, held, rebuilt_row(state, body))


def guard(state, node):
    word, line, items, body = node
    items = tuple([(rebuilt(state, value), rebuilt(state, target)) for value, target in items])
    return (word, state.changed_line(line), items, rebuilt_row(state, body))


def function(state, node):
    word, line, bound, parameters, body, decorators = node
    bound = state.changed_name(bound)
    parameters = rebuilt_parameters(state, parameters)
    decorators = rebuilt_row(state, decorators)
    around = state.enter()
    body = rebuilt_row(state, body)
    state.scope = around
    return (word, state.changed_line(line), bound, parameters, body, decorators)


def class_statement(state, node):
    word, line, bound, bases, body, decorators = node
    bound = state.changed_name(bound)
    decorators = rebuilt_row(state, decorators)
    bases = rebuilt_row(state, bases)
    around = state.enter()
    body = rebuilt_row(state, body)
    state.scope = around
    return (word, state.changed_line(line), bound, bases, body, decorators)


ACTIONS = {
    "Name": name, "Constant": constant, "NamedExpr": named, "Compare": comparison, "Call": call, "Lambda": lambda_of,
    "ListComp": comprehension, "DictComp": comprehension, "GeneratorExp": comprehension, "Global": declaration,
    "Nonlocal": declaration, "Try": attempt, "With": guard, "Function": function, "Class": class_statement,
}


class Moving(Rebuilding):
    """All lines from one on become greater."""

    def __init__(self, line, more):
        Rebuilding.__init__(self)
        self.line = line
        self.more = more

    def changed_line(self, line):
        return line + self.more if line >= self.line else line


class Renaming(Rebuilding):
    """The name of a local of a scope becomes another one."""

    def __init__(self, number, before, after):
        Rebuilding.__init__(self)
        self.number = number
        self.before = before
        self.after = after

    def changed_name(self, name):
        return self.after if self.scope == self.number and name == self.before else name
