"""Programs for the tests, written down as source text of Python, and run in all ways there are."""

import ast
import textwrap

from codewalk.assembly import compiled
from codewalk.judging import judged
from codewalk.machine import run
from codewalk.walker import walk
from tests.codes import codes_in

BINARY = {
    ast.Add: "+", ast.Sub: "-", ast.Mult: "*", ast.FloorDiv: "//", ast.Mod: "mod", ast.Pow: "**", ast.LShift: "<<",
    ast.RShift: ">>", ast.BitAnd: "&", ast.BitOr: "|", ast.BitXor: "^",
}
UNARY = {ast.USub: "-", ast.Invert: "~", ast.Not: "not"}
COMPARE = {
    ast.Eq: "==", ast.NotEq: "!=", ast.Lt: "<", ast.LtE: "<=", ast.Gt: ">", ast.GtE: ">=", ast.Is: "is",
    ast.IsNot: "is not", ast.In: "in", ast.NotIn: "not in",
}


def tree_of(source):
    """The tree of a program; its lines are those of the text."""
    return Reader().body(ast.parse(textwrap.dedent(source).strip("\n")).body)


class Reader:
    def body(self, nodes):
        return [self.read(node) for node in nodes]

    def read(self, node):
        return None if node is None else getattr(self, type(node).__name__)(node)

    def Expr(self, node):
        return ("Expr", node.lineno, self.read(node.value))

    def Assign(self, node):
        return ("Assign", node.lineno, self.body(node.targets), self.read(node.value))

    def AugAssign(self, node):
        return ("AugAssign", node.lineno, self.read(node.target), BINARY[type(node.op)], self.read(node.value))

    def Delete(self, node):
        return ("Delete", node.lineno, self.body(node.targets))

    def Pass(self, node):
        return (type(node).__name__, node.lineno)

    Break = Continue = Pass

    def Return(self, node):
        return ("Return", node.lineno, self.read(node.value))

    def Raise(self, node):
        return ("Raise", node.lineno, self.read(node.exc), self.read(node.cause))

    def Assert(self, node):
        return ("Assert", node.lineno, self.read(node.test), self.read(node.msg))

    def Global(self, node):
        return (type(node).__name__, node.lineno, node.names)

    Nonlocal = Global

    def If(self, node):
        return (type(node).__name__, node.lineno, self.read(node.test), self.body(node.body), self.body(node.orelse))

    While = If

    def For(self, node):
        return ("For", node.lineno, self.read(node.target), self.read(node.iter), self.body(node.body),
                self.body(node.orelse))

    def Try(self, node):
        handlers = [(part.lineno, self.read(part.type), part.name, self.body(part.body)) for part in node.handlers]
        return ("Try", node.lineno, self.body(node.body), handlers, self.body(node.orelse), self.body(node.finalbody))

    def With(self, node):
        items = [(self.read(item.context_expr), self.read(item.optional_vars)) for item in node.items]
        return ("With", node.lineno, items, self.body(node.body))

    def FunctionDef(self, node):
        # Decorators stand on lines of their own, which have no statement.
        return ("Function", node.lineno, node.name, self.parameters(node.args), self.body(node.body),
                self.body(node.decorator_list))

    def ClassDef(self, node):
        return ("Class", node.lineno, node.name, self.body(node.bases), self.body(node.body),
                self.body(node.decorator_list))

    def parameters(self, taken):
        return ([one.arg for one in taken.args], self.body(taken.defaults), taken.vararg and taken.vararg.arg,
                [one.arg for one in taken.kwonlyargs], self.body(taken.kw_defaults), taken.kwarg and taken.kwarg.arg)

    def Constant(self, node):
        return ("Constant", node.value)

    def Name(self, node):
        return ("Name", node.id)

    def Tuple(self, node):
        return (type(node).__name__, self.body(node.elts))

    List = Tuple

    def Dict(self, node):
        return ("Dict", self.body(node.keys), self.body(node.values))

    def BinOp(self, node):
        return ("BinOp", self.read(node.left), BINARY[type(node.op)], self.read(node.right))

    def UnaryOp(self, node):
        return ("UnaryOp", UNARY[type(node.op)], self.read(node.operand))

    def BoolOp(self, node):
        return ("BoolOp", "and" if isinstance(node.op, ast.And) else "or", self.body(node.values))

    def Compare(self, node):
        return ("Compare", self.read(node.left), [COMPARE[type(op)] for op in node.ops], self.body(node.comparators))

    def IfExp(self, node):
        return ("IfExp", self.read(node.test), self.read(node.body), self.read(node.orelse))

    def Call(self, node):
        return ("Call", self.read(node.func), self.body(node.args), [(one.arg, self.read(one.value)) for one in node.keywords])

    def Attribute(self, node):
        return ("Attribute", self.read(node.value), node.attr)

    def Subscript(self, node):
        return ("Subscript", self.read(node.value), self.read(node.slice))

    def Slice(self, node):
        return ("Slice", self.read(node.lower), self.read(node.upper))

    def Lambda(self, node):
        return ("Lambda", self.parameters(node.args), self.read(node.body))

    def NamedExpr(self, node):
        return ("NamedExpr", node.target.id, self.read(node.value))

    def ListComp(self, node):
        return (type(node).__name__, self.read(node.elt), self.clauses(node))

    GeneratorExp = ListComp

    def DictComp(self, node):
        return ("DictComp", self.read(node.key), self.read(node.value), self.clauses(node))

    def clauses(self, node):
        return [(self.read(one.target), self.read(one.iter), self.body(one.ifs)) for one in node.generators]

    def Yield(self, node):
        return (type(node).__name__, self.read(node.value))

    YieldFrom = Starred = Yield


def run_tree(test, tree, most=2000):
    """The log and the outcome of a program; they are the same with all passes, with the needed ones alone, and walked."""
    code, plain = compiled(tree), compiled(tree, False)
    for inner in codes_in(code) + codes_in(plain):
        test.assertEqual(judged(inner), "right")
    found = run(code, most)
    # The text tells bools and integers apart.
    test.assertEqual(repr(run(plain, most)), repr(found), tree)
    test.assertEqual(repr(walk(tree, most)), repr(found), tree)
    return found


def run_source(test, source, most=2000):
    return run_tree(test, tree_of(source), most)


def told(test, source):
    """What a program tells, an entry of one value as this; and the class of the exception with which it ends."""
    log, outcome = run_source(test, source, 20000)
    found = [entry[1] if len(entry) == 2 else entry[1:] for entry in log if entry[0] == "tell"]
    return found + [outcome[1]] if outcome[0] == "raised" else found


def evaluated(test, expression, setup=""):
    """What an expression is, or the name of the class of the exception that it raises, in a tuple."""
    source = textwrap.dedent(setup).strip("\n")
    log, outcome = run_source(test, f"{source}\ntell({expression})")
    if outcome[0] == "raised":
        return (outcome[1],)
    return [entry for entry in log if entry[0] == "tell"][-1][1]


def evaluated_all(test, cases, setup="", most=40):
    """The same for many expressions, or for pairs of some statements and an expression behind them, by few programs."""
    found = []
    for at in range(0, len(cases), most):
        source = [textwrap.dedent(setup).strip("\n")]
        part = cases[at:at + most]
        for case in part:
            ahead, expression = case if isinstance(case, tuple) else ("", case)
            source.append("try:")
            source += [f"    {line}" for line in ahead.split("\n") if line]
            source += [f"    tell({expression})", "except BaseException as fault:", "    tell(fault, fault)"]
        log, outcome = run_source(test, "\n".join(source), 20000)
        test.assertEqual(outcome, ("returned",))
        entries = [entry for entry in log if entry[0] == "tell"]
        test.assertEqual(len(entries), len(part))
        found += [(entry[1][1],) if len(entry) == 3 else entry[1] for entry in entries]
    return found


def lines(source):
    """The text of a program with its lines numbered, for reading a test that fails."""
    return "\n".join(f"{at:3} {line}" for at, line in enumerate(textwrap.dedent(source).strip("\n").split("\n"), 1))
