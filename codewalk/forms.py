"""The forms of trees: the parts that a node has, and the nodes that are inside of it.

A form is a tuple with the kind of each part, so that the index of a part in
the form is its index in the node. A ROLE is what a node is to the node that
has it; it decides which forms the node may have.
"""

STATEMENTS = {
    "Expr": ("word", "line", "expression"),
    "Assign": ("word", "line", "targets", "expression"),
    "AugAssign": ("word", "line", "single", "operator", "expression"),
    "Delete": ("word", "line", "deletions"),
    "Pass": ("word", "line"),
    "Break": ("word", "line"),
    "Continue": ("word", "line"),
    "Return": ("word", "line", "optional"),
    "Raise": ("word", "line", "optional", "optional"),
    "Assert": ("word", "line", "expression", "optional"),
    "Global": ("word", "line", "declared"),
    "Nonlocal": ("word", "line", "declared"),
    "If": ("word", "line", "expression", "body", "statements"),
    "While": ("word", "line", "expression", "body", "statements"),
    "For": ("word", "line", "target", "expression", "body", "statements"),
    "Try": ("word", "line", "body", "handlers", "statements", "statements"),
    "With": ("word", "line", "items", "body"),
    "Function": ("word", "line", "name", "parameters", "body", "expressions"),
    "Class": ("word", "line", "name", "expressions", "body", "expressions"),
}

EXPRESSIONS = {
    "Constant": ("word", "constant"),
    "Name": ("word", "name"),
    "Tuple": ("word", "members"),
    "List": ("word", "members"),
    "Dict": ("word", "expressions", "expressions"),
    "BinOp": ("word", "expression", "operator", "expression"),
    "UnaryOp": ("word", "sign", "expression"),
    "BoolOp": ("word", "junction", "operands"),
    "Compare": ("word", "expression", "comparisons", "expressions"),
    "IfExp": ("word", "expression", "expression", "expression"),
    "Call": ("word", "expression", "members", "keywords"),
    "Attribute": ("word", "expression", "name"),
    "Subscript": ("word", "expression", "index"),
    "Slice": ("word", "optional", "optional"),
    "Lambda": ("word", "parameters", "expression"),
    "NamedExpr": ("word", "name", "expression"),
    "ListComp": ("word", "expression", "clauses"),
    "GeneratorExp": ("word", "expression", "clauses"),
    "DictComp": ("word", "expression", "expression", "clauses"),
    "Yield": ("word", "optional"),
    "YieldFrom": ("word", "expression"),
    "Starred": ("word", "expression"),
}

TARGETS = {
    "Name": ("word", "name"),
    "Attribute": ("word", "expression", "name"),
    "Subscript": ("word", "expression", "index"),
    "Tuple": ("word", "pieces"),
    "List": ("word", "pieces"),
    "Starred": ("word", "target"),
}

# Nodes that do not begin with a word.
WORDLESS = {
    "handler": ("line", "optional", "alias", "body"),
    "item": ("expression", "landing"),
    "keyword": ("alias", "expression"),
    "clause": ("target", "expression", "expressions"),
    "parameters": ("names", "expressions", "alias", "names", "choices", "alias"),
}

# The words of an expression that may not stand in a role, and of a target that may.
BARRED = {"expression": ("Starred", "Slice"), "member": ("Slice",), "index": ("Starred",)}
ALLOWED = {
    "target": ("Name", "Attribute", "Subscript", "Tuple", "List"),
    "piece": ("Name", "Attribute", "Subscript", "Tuple", "List", "Starred"),
    "single": ("Name", "Attribute", "Subscript"),
    "deletion": ("Name", "Attribute", "Subscript"),
}

# The kind of each member of a row, and the least number of members.
ROWS = {
    "body": ("statement", 1),
    "statements": ("statement", 0),
    "targets": ("target", 1),
    "pieces": ("piece", 0),
    "deletions": ("deletion", 1),
    "handlers": ("handler", 0),
    "items": ("item", 1),
    "keywords": ("keyword", 0),
    "clauses": ("clause", 1),
    "expressions": ("expression", 0),
    "operands": ("expression", 2),
    "members": ("member", 0),
    "choices": ("optional", 0),
    "names": ("name", 0),
    "declared": ("name", 1),
    "comparisons": ("comparison", 1),
}

# What a part is if it is not None.
OPTIONS = {"optional": "expression", "landing": "target", "alias": "name"}

OPERATORS = {
    "operator": ("+", "-", "*", "//", "mod", "**", "<<", ">>", "&", "|", "^"),
    "sign": ("-", "~", "not"),
    "junction": ("and", "or"),
    "comparison": ("==", "!=", "<", "<=", ">", ">=", "is", "is not", "in", "not in"),
}


def form_of(role, node):
    """The form of an object that stands in a role, or None if it has none that may stand there."""
    if not isinstance(node, tuple):
        return None
    form = WORDLESS[role] if role in WORDLESS else worded_form(role, node)
    return form if form is not None and len(form) == len(node) else None


def worded_form(role, node):
    """The form that the first part of a tuple names."""
    if len(node) == 0 or not isinstance(node[0], str):
        return None
    word = node[0]
    if role == "statement":
        return STATEMENTS.get(word)
    if role in ALLOWED:
        return TARGETS[word] if word in ALLOWED[role] else None
    return None if word in BARRED[role] else EXPRESSIONS.get(word)


def inside(role, node):
    """The nodes directly inside of a right one, in order: (role, node, the indexes that lead to it)."""
    found = []
    for kind, part, steps in parts(role, node):
        inner = OPTIONS.get(kind, kind)
        if is_role(inner) and (kind == inner or part is not None):
            found.append((inner, part, steps))
    return found


def parts(role, node):
    """The parts of a right node, those in rows one by one: (kind, part, the indexes that lead to it)."""
    found = []
    for at, kind in enumerate(form_of(role, node)):
        if kind in ROWS:
            each = ROWS[kind][0]
            found.extend([(each, part, (at, k)) for k, part in enumerate(node[at])])
        else:
            found.append((kind, node[at], (at,)))
    return found


def is_role(kind):
    """Whether a part of this kind is a node."""
    return kind == "statement" or kind in BARRED or kind in ALLOWED or kind in WORDLESS
