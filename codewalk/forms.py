"""The forms of trees: what a node with a word has, and which nodes are inside of it.

A FORM is a tuple (length, line, parts, agreement, inner): the length of the node; the index of its line, or None; the
parts that are no nodes, as tuples (index, the function that tells whether it is right); the function that tells
whether the parts go together, or None; and the nodes inside, THE LAST FIRST, as tuples (index, the least length of the
row of them, or None for a single one, FIND).

FIND tells what a node is to the node that has it: it gives the form of an object there, () if it has none, and None
if it is right and has no node inside of it, so that it need not be looked at any further.
"""

from codewalk.names import is_name

OPERATORS = {
    "+": True, "-": True, "*": True, "//": True, "mod": True, "**": True, "<<": True, ">>": True, "&": True,
    "|": True, "^": True,
}
SIGNS = {"-": True, "~": True, "not": True}
JUNCTIONS = {"and": True, "or": True}
COMPARISONS = {
    "==": True, "!=": True, "<": True, "<=": True, ">": True, ">=": True, "is": True, "is not": True, "in": True,
    "not in": True,
}


def is_operator(part):
    return isinstance(part, str) and part in OPERATORS


def is_sign(part):
    return isinstance(part, str) and part in SIGNS


def is_junction(part):
    return isinstance(part, str) and part in JUNCTIONS


def are_comparisons(part):
    return is_row(part) and len(part) > 0 and all([isinstance(one, str) and one in COMPARISONS for one in part])


def is_row(part):
    return isinstance(part, (list, tuple))


def is_named(part):
    return is_name(part)


def is_name_or_none(part):
    return part is None or is_name(part)


def are_names(part):
    return is_row(part) and all([is_name(one) for one in part])


def are_some_names(part):
    return is_row(part) and len(part) > 0 and all([is_name(one) for one in part])


def are_parameters(part):
    return isinstance(part, tuple) and len(part) == 6


def are_handlers(part):
    return is_row(part) and all([isinstance(one, tuple) and len(one) == 4 for one in part])


def are_clauses(part):
    return is_row(part) and all([isinstance(one, tuple) and len(one) == 3 for one in part])


def are_couples(part):
    """Whether a part is a row of tuples as long as an item or a keyword."""
    return is_row(part) and all([isinstance(one, tuple) and len(one) == 2 for one in part])


def has_kind_for_name(handler):
    return handler[1] is not None or handler[2] is None


def has_names_for_defaults(parameters):
    return len(parameters[1]) <= len(parameters[0]) and len(parameters[3]) == len(parameters[4])


def has_value_for_cause(node):
    return node[2] is not None or node[3] is None


def has_handlers_or_finalbody(node):
    return len(node[3]) > 0 or (len(node[4]) == 0 and len(node[5]) > 0)


def has_keys_for_values(node):
    return len(node[1]) == len(node[2])


def has_values_for_comparisons(node):
    return len(node[2]) == len(node[3])


def has_one_star(target):
    """Whether at most one of the pieces is Starred; one of another length is wrong itself, when its turn comes."""
    return len([part for part in target[1] if isinstance(part, tuple) and len(part) == 2 and part[0] == "Starred"]) < 2


def has_no_slice(target):
    """Whether the index is no Slice; one of another length is wrong itself, when its turn comes."""
    index = target[2]
    return not (isinstance(index, tuple) and len(index) == 3 and index[0] == "Slice")


def as_statement(node):
    if not isinstance(node, tuple) or len(node) < 2 or not isinstance(node[0], str):
        return ()
    return STATEMENTS.get(node[0], ())


def as_expression(node):
    if not isinstance(node, tuple) or len(node) < 2:
        return ()
    word = node[0]
    if word == "Name":
        return None if len(node) == 2 and is_name(node[1]) else ()
    if word == "Constant":
        return None if len(node) == 2 and (node[1] is None or isinstance(node[1], (int, str))) else ()
    return EXPRESSIONS.get(word, ()) if isinstance(word, str) else ()


def as_optional(node):
    return None if node is None else as_expression(node)


def as_member(node):
    """The form of an element or an argument."""
    form = as_expression(node)
    return STARRED if form == () and has_word(node, "Starred") else form


def as_index(node):
    form = as_expression(node)
    return SLICE if form == () and has_word(node, "Slice") else form


def as_target(node):
    if not isinstance(node, tuple) or len(node) < 2:
        return ()
    word = node[0]
    if word == "Name":
        return None if len(node) == 2 and is_name(node[1]) else ()
    return TARGETS.get(word, ()) if isinstance(word, str) else ()


def as_landing(node):
    """The form of the target of an item."""
    return None if node is None else as_target(node)


def as_piece(node):
    """The form of an element of a target."""
    form = as_target(node)
    return STARRED_TARGET if form == () and has_word(node, "Starred") else form


def as_single(node):
    """The form of the target of an AugAssign."""
    return () if has_word(node, "Tuple") or has_word(node, "List") else as_target(node)


def as_deletion(node):
    return DELETED_SUBSCRIPT if has_word(node, "Subscript") else as_single(node)


def has_word(node, word):
    return isinstance(node, tuple) and len(node) > 1 and node[0] == word


# What has no word has its form from the node around it, which has seen to its length.
def as_handler(_):
    return HANDLER


def as_item(_):
    return ITEM


def as_keyword(_):
    return KEYWORD


def as_clause(_):
    return CLAUSE


def as_parameters(_):
    return PARAMETERS


STATEMENTS = {
    "Expr": (3, 1, (), None, ((2, None, as_expression),)),
    "Assign": (4, 1, (), None, ((3, None, as_expression), (2, 1, as_target))),
    "AugAssign": (5, 1, ((3, is_operator),), None, ((4, None, as_expression), (2, None, as_single))),
    "Delete": (3, 1, (), None, ((2, 1, as_deletion),)),
    "Pass": (2, 1, (), None, ()),
    "Break": (2, 1, (), None, ()),
    "Continue": (2, 1, (), None, ()),
    "Return": (3, 1, (), None, ((2, None, as_optional),)),
    "Raise": (4, 1, (), has_value_for_cause, ((3, None, as_optional), (2, None, as_optional))),
    "Assert": (4, 1, (), None, ((3, None, as_optional), (2, None, as_expression))),
    "Global": (3, 1, ((2, are_some_names),), None, ()),
    "Nonlocal": (3, 1, ((2, are_some_names),), None, ()),
    "If": (5, 1, (), None, ((4, 0, as_statement), (3, 1, as_statement), (2, None, as_expression))),
    "While": (5, 1, (), None, ((4, 0, as_statement), (3, 1, as_statement), (2, None, as_expression))),
    "For": (
        6, 1, (), None, ((5, 0, as_statement), (4, 1, as_statement), (3, None, as_expression), (2, None, as_target)),
    ),
    "Try": (
        6, 1, ((3, are_handlers),), has_handlers_or_finalbody,
        ((5, 0, as_statement), (4, 0, as_statement), (3, 0, as_handler), (2, 1, as_statement)),
    ),
    "With": (4, 1, ((2, are_couples),), None, ((3, 1, as_statement), (2, 1, as_item))),
    "Function": (
        6, 1, ((2, is_named), (3, are_parameters)), None,
        ((5, 0, as_expression), (4, 1, as_statement), (3, None, as_parameters)),
    ),
    "Class": (6, 1, ((2, is_named),), None, ((5, 0, as_expression), (4, 1, as_statement), (3, 0, as_expression))),
}

EXPRESSIONS = {
    "Tuple": (2, None, (), None, ((1, 0, as_member),)),
    "List": (2, None, (), None, ((1, 0, as_member),)),
    "Dict": (3, None, (), has_keys_for_values, ((2, 0, as_expression), (1, 0, as_expression))),
    "BinOp": (4, None, ((2, is_operator),), None, ((3, None, as_expression), (1, None, as_expression))),
    "UnaryOp": (3, None, ((1, is_sign),), None, ((2, None, as_expression),)),
    "BoolOp": (3, None, ((1, is_junction),), None, ((2, 2, as_expression),)),
    "Compare": (
        4, None, ((2, are_comparisons),), has_values_for_comparisons, ((3, 0, as_expression), (1, None, as_expression)),
    ),
    "IfExp": (4, None, (), None, ((3, None, as_expression), (2, None, as_expression), (1, None, as_expression))),
    "Call": (4, None, ((3, are_couples),), None, ((3, 0, as_keyword), (2, 0, as_member), (1, None, as_expression))),
    "Attribute": (3, None, ((2, is_named),), None, ((1, None, as_expression),)),
    "Subscript": (3, None, (), None, ((2, None, as_index), (1, None, as_expression))),
    "Lambda": (3, None, ((1, are_parameters),), None, ((2, None, as_expression), (1, None, as_parameters))),
    "NamedExpr": (3, None, ((1, is_named),), None, ((2, None, as_expression),)),
    "ListComp": (3, None, ((2, are_clauses),), None, ((2, 1, as_clause), (1, None, as_expression))),
    "GeneratorExp": (3, None, ((2, are_clauses),), None, ((2, 1, as_clause), (1, None, as_expression))),
    "DictComp": (
        4, None, ((3, are_clauses),), None, ((3, 1, as_clause), (2, None, as_expression), (1, None, as_expression)),
    ),
    "Yield": (2, None, (), None, ((1, None, as_optional),)),
    "YieldFrom": (2, None, (), None, ((1, None, as_expression),)),
}

TARGETS = {
    "Attribute": (3, None, ((2, is_named),), None, ((1, None, as_expression),)),
    "Subscript": (3, None, (), None, ((2, None, as_index), (1, None, as_expression))),
    "Tuple": (2, None, (), has_one_star, ((1, 0, as_piece),)),
    "List": (2, None, (), has_one_star, ((1, 0, as_piece),)),
}

STARRED = (2, None, (), None, ((1, None, as_expression),))
SLICE = (3, None, (), None, ((2, None, as_optional), (1, None, as_optional)))
STARRED_TARGET = (2, None, (), None, ((1, None, as_target),))
DELETED_SUBSCRIPT = (3, None, (), has_no_slice, ((2, None, as_index), (1, None, as_expression)))
HANDLER = (4, 0, ((2, is_name_or_none),), has_kind_for_name, ((3, 1, as_statement), (1, None, as_optional)))
ITEM = (2, None, (), None, ((1, None, as_landing), (0, None, as_expression)))
KEYWORD = (2, None, ((0, is_name_or_none),), None, ((1, None, as_expression),))
CLAUSE = (3, None, (), None, ((2, 0, as_expression), (1, None, as_expression), (0, None, as_target)))
PARAMETERS = (
    6, None, ((0, are_names), (2, is_name_or_none), (3, are_names), (5, is_name_or_none)), has_names_for_defaults,
    ((4, 0, as_optional), (1, 0, as_expression)),
)
