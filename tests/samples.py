"""Trees for the tests, and what builds and changes them.

In these trees rows are lists, so that each tuple is a node.
"""

import random

NOTHING = ([], [], None, [], [], None)

STATEMENT_WORDS = (
    "Expr", "Assign", "AugAssign", "Delete", "Pass", "Break", "Continue", "Return", "Raise", "Assert", "Global",
    "Nonlocal", "If", "While", "For", "Try", "With", "Function", "Class",
)

EXPRESSION_WORDS = (
    "Constant", "Name", "Tuple", "List", "Dict", "BinOp", "UnaryOp", "BoolOp", "Compare", "IfExp", "Call",
    "Attribute", "Subscript", "Slice", "Lambda", "NamedExpr", "ListComp", "GeneratorExp", "DictComp", "Yield",
    "YieldFrom", "Starred",
)


def name(word):
    return ("Name", word)


def constant(value):
    return ("Constant", value)


def starred(value):
    return ("Starred", value)


def slot(value, index):
    return ("Subscript", value, index)


def part(lower, upper):
    return ("Slice", lower, upper)


def expr(value, line=1):
    return ("Expr", line, value)


def assign(target, value=("Constant", 1), line=1):
    return ("Assign", line, [target], value)


def parameters(*names):
    return (list(names), [], None, [], [], None)


def function(word, body, line=1, taken=NOTHING, decorators=()):
    return ("Function", line, word, taken, body, list(decorators))


def class_of(word, body, line=1, bases=(), decorators=()):
    return ("Class", line, word, list(bases), body, list(decorators))


def clause(target, value=("Name", "z"), *tests):
    return (target, value, list(tests))


def named(word, value=("Constant", 1)):
    return ("NamedExpr", word, value)


def every_expression():
    """Expressions of all words, in many shapes, each of which may stand alone."""
    a, b, c, one = name("a"), name("b"), name("c"), constant(1)
    full = (["p", "q"], [one], "r", ["s", "t"], [None, b], "u")
    return [
        constant(None), constant(True), constant(-(10 ** 30)), constant("text"), constant(""),
        ("Tuple", []), ("Tuple", [a, starred(b), starred(c)]), ("List", [starred(a), one]), ("List", []),
        ("Dict", [], []), ("Dict", [a, one], [b, c]),
        ("BinOp", a, "mod", b), ("UnaryOp", "not", a), ("UnaryOp", "~", ("UnaryOp", "-", one)),
        ("BoolOp", "and", [a, b]), ("BoolOp", "or", [a, b, c]),
        ("Compare", a, ["<"], [b]), ("Compare", a, ["is not", "not in", "=="], [b, c, one]),
        ("IfExp", a, b, c),
        ("Call", a, [], []), ("Call", a, [b, starred(c), one], [("k", b), (None, c)]),
        ("Attribute", a, "field"), slot(a, b), slot(a, part(None, None)), slot(a, part(b, c)),
        slot(a, ("Tuple", [b, starred(c)])),
        ("Lambda", NOTHING, a), ("Lambda", full, b),
        named("n", a),
        ("ListComp", a, [clause(b, c), clause(("Tuple", [name("d"), starred(name("e"))]), a, b, c)]),
        ("GeneratorExp", a, [clause(("Attribute", b, "x"), c)]),
        ("DictComp", a, b, [clause(slot(b, c), one, a)]),
        ("Yield", None), ("Yield", a), ("YieldFrom", a),
    ]


def every_target():
    """Targets of all shapes."""
    a, b, c = name("a"), name("b"), name("c")
    return [
        a, ("Attribute", constant(1), "x"), slot(a, b), slot(a, part(b, None)), ("Tuple", []), ("List", [a]),
        ("Tuple", [a, starred(b), ("List", [starred(("Tuple", [c])), slot(a, part(None, b))])]),
    ]


def every_statement():
    """Functions from a line to the statements that begin there, each with all lines that it has in itself."""
    a, b, one = name("a"), name("b"), constant(1)
    full = (["p", "q"], [one, a], "r", ["s"], [None], None)
    return [
        lambda n: [("AugAssign", n, a, "mod", one), ("AugAssign", n + 1, ("Attribute", a, "x"), "**", b)],
        lambda n: [("AugAssign", n, slot(a, part(b, one)), "+", b)],
        lambda n: [("Delete", n, [a, ("Attribute", a, "x"), slot(a, b)])],
        lambda n: [("Pass", n), ("Break", n + 1), ("Continue", n + 2)],
        lambda n: [("Return", n, None), ("Return", n + 1, a)],
        lambda n: [("Raise", n, None, None), ("Raise", n + 1, a, None), ("Raise", n + 2, a, b)],
        lambda n: [("Assert", n, a, None), ("Assert", n + 1, a, b)],
        lambda n: [("Global", n, ["g", "h"]), ("Nonlocal", n + 1, ["k"])],
        lambda n: [("If", n, a, [("Pass", n + 1)], []), ("If", n + 2, a, [("Pass", n + 3)], [("Pass", n + 4)])],
        lambda n: [("While", n, a, [("Pass", n + 1)], [("Pass", n + 2)])],
        lambda n: [("For", n, a, b, [("Pass", n + 1)], [("Pass", n + 2)])],
        lambda n: [("Try", n, [("Pass", n + 1)], [(n + 2, a, "e", [("Pass", n + 3)]), (n + 4, None, None,
                   [("Pass", n + 5)])], [("Pass", n + 6)], [("Pass", n + 7)])],
        lambda n: [("Try", n, [("Pass", n + 1)], [], [], [("Pass", n + 2)])],
        lambda n: [("Try", n, [("Pass", n + 1)], [(n + 2, a, None, [("Pass", n + 3)])], [], [])],
        lambda n: [("With", n, [(a, None), (b, ("Tuple", [a, starred(b)]))], [("Pass", n + 1)])],
        lambda n: [function("f", [("Pass", n + 1)], n), function("g", [("Pass", n + 3)], n + 2, full, [a, b])],
        lambda n: [class_of("C", [("Pass", n + 1)], n), class_of("D", [("Pass", n + 3)], n + 2, [a], [b])],
        lambda n: [("Assign", n, [a, b, ("Tuple", [a, b])], one)],
    ]


def showcase():
    """A program with all statements, all expressions, and targets of all shapes."""
    tree = []
    for made in every_statement():
        tree += made(10 * len(tree) + 1)
    first = 10 * len(tree) + 1
    tree += [("Expr", first + k, value) for k, value in enumerate(every_expression())]
    first += len(tree)
    tree += [("Assign", first + k, [target], ("Constant", 1)) for k, target in enumerate(every_target())]
    return tree


def small_trees():
    """Programs that together are like the showcase, each of them short."""
    found = [made(1) for made in every_statement()]
    found += [[expr(value)] for value in every_expression()]
    return found + [[assign(target)] for target in every_target()]


def nested(depth):
    """A program of Ifs that are nested so deep, with an expression as deep in the last one."""
    value = name("a")
    for _ in range(depth):
        value = ("UnaryOp", "not", value)
    body = [("Expr", depth + 1, value)]
    for line in range(depth, 0, -1):
        body = [("If", line, name("a"), body, [])]
    return body


def places(thing, place=()):
    """The places of all parts of a tree, whatever they are, rows included, in the order of nodes."""
    found = [place]
    if isinstance(thing, (list, tuple)):
        for at, inner in enumerate(thing):
            found += places(inner, place + (at,))
    return found


def at_place(tree, place):
    for at in place:
        tree = tree[at]
    return tree


def replaced(thing, place, new):
    """The tree with something else at a place."""
    if not place:
        return new
    inner = [replaced(part, place[1:], new) if at == place[0] else part for at, part in enumerate(thing)]
    return tuple(inner) if isinstance(thing, tuple) else inner


def with_tuples(thing):
    """The tree with tuples for rows."""
    if isinstance(thing, (list, tuple)):
        return tuple([with_tuples(part) for part in thing])
    return thing


def is_wordless(tree, place):
    """Whether the node at a place is a handler, an item, a keyword, a clause or the parameters."""
    if len(place) < 2:
        return False
    up = at_place(tree, place[:-1])
    if isinstance(up, tuple):
        return (up[0], place[-1]) in (("Function", 3), ("Lambda", 1))
    word, at = at_place(tree, place[:-2])[0], place[-2]
    return (word, at) in (("Call", 3), ("Try", 3), ("With", 2), ("ListComp", 2), ("GeneratorExp", 2), ("DictComp", 3))


def node_around(tree, place):
    """The place of the node that has the part, or the row with the part, at a place."""
    up = place[:-1]
    return up if isinstance(at_place(tree, up), tuple) or not up else up[:-1]


def numbers(seed):
    """Random numbers that are the same in each run."""
    return random.Random(seed)
