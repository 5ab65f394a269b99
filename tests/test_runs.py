"""The machine and the walker: lines, calls, ways out of statements, tracebacks, outcomes, and the length of the log."""

import unittest

from codewalk.assembly import compiled
from codewalk.codes import Code
from codewalk.errors import NoCode, NoNumber, NoProgram, NoTree
from codewalk.machine import run
from codewalk.marshalled import read, written
from codewalk.walker import walk
from tests.codes import made
from tests.runs import RunMaker
from tests.samples import numbers
from tests.source import lines, run_source, run_tree, tree_of
from tests.test_check_wrong import junk


class RunTests(unittest.TestCase):
    def short(self, source, most=2000):
        """The log of a program in short: lines as numbers, and the calls, returns and so on of all frames but the first."""
        log, self.outcome = run_source(self, source, most)
        found = []
        for entry in log:
            found.append(entry[1] if entry[0] == "line" else entry)
        self.assertEqual(found[0], ("call", "<module>"))
        return found[1:]

    def logs(self, source, *due):
        found = self.short(source)
        self.assertEqual(found, list(due), f"\n{lines(source)}")

    def lines_of(self, source, *due):
        """Compares the lines that all frames tell, and what is told by a single value."""
        found = [entry[1] for entry in run_source(self, source)[0] if entry[0] == "line" or (entry[0] == "tell" and len(entry) == 2)]
        self.assertEqual(found, list(due), f"\n{lines(source)}")


END = ("return", None)


class ExampleTests(RunTests):
    def test_run(self):
        tree = [("Assign", 1, [("Name", "x")], ("BinOp", ("Constant", 2), "+", ("Constant", 3)))]
        self.assertEqual(run(compiled(tree), 100), ([("call", "<module>"), ("line", 1), ("return", None)], ("returned",)))

    def test_walk(self):
        tree = [("Expr", 3, ("BinOp", ("Constant", 1), "//", ("Constant", 0)))]
        due = ([("call", "<module>"), ("line", 3), ("leave", "ZeroDivisionError")],
               ("raised", "ZeroDivisionError", (), [("<module>", 3)]))
        self.assertEqual(walk(tree, 100), due)
        self.assertEqual(run_tree(self, tree), due)


class LineTests(RunTests):
    def test_plain_statements(self):
        self.logs("""
            x = 1
            pass
            5
            x
            x = y = (x,
                     2)
            del x

            assert y
            y += ()
        """, 1, 2, 3, 4, 5, 7, 9, 10, END)
        self.logs("def f():\n    global x\n    x = 1\nf()", 1, 4, ("call", "f"), 2, 3, END, END)

    def test_if(self):
        source = "if {}:\n    tell(1)\nelif {}:\n    tell(2)\nelse:\n    pass\n7"
        self.logs(source.format("1", "1"), 1, 2, ("tell", 1), 7, END)
        self.logs(source.format("0", "1"), 1, 3, 4, ("tell", 2), 7, END)
        self.logs(source.format("[]", "x"), 1, 3, ("leave", "NameError"))
        self.logs(source.format("0", "None"), 1, 3, 6, 7, END)

    def test_while(self):
        source = "x = 2\nwhile x:\n    x -= 1\n{}else:\n    7\n8"
        self.logs(source.format(""), 1, 2, 3, 2, 3, 2, 5, 6, END)
        self.logs(source.format("    if x:\n        continue\n    break\n"), 1, 2, 3, 4, 5, 2, 3, 4, 6, 9, END)
        self.logs("while 1:\n    break\nwhile 0:\n    pass\nwhile False:\n    5\nelse:\n    6", 1, 2, 3, 5, 8, END)
        self.logs("x = 0\nwhile True:\n    x += 1\n    if x == 2:\n        break", 1, 2, 3, 4, 2, 3, 4, 5, END)

    def test_for(self):
        source = "for x in (1, 2):\n    x\n{}else:\n    7\n8"
        self.logs(source.format(""), 1, 2, 1, 2, 1, 4, 5, END)
        self.logs(source.format("    if x == 2:\n        break\n    continue\n"), 1, 2, 3, 5, 1, 2, 3, 4, 8, END)
        self.logs("for x in ():\n    pass\n3", 1, 3, END)
        self.logs("for x in 5:\n    pass", 1, ("leave", "TypeError"))
        self.logs("for a, b in [(1, 2), 3]:\n    pass", 1, 2, 1, ("leave", "TypeError"))

    def test_try(self):
        source = "try:\n    {}\nexcept KeyError:\n    4\nexcept (ValueError, TypeError) as e:\n    6\nexcept:\n    8\nelse:\n    10\nfinally:\n    12\n13"
        self.logs(source.format("pass"), 1, 2, 10, 12, 13, END)
        self.logs(source.format("raise KeyError"), 1, 2, 3, 4, 12, 13, END)
        self.logs(source.format("raise TypeError"), 1, 2, 3, 5, 6, 12, 13, END)
        self.logs(source.format("1 // 0"), 1, 2, 3, 5, 7, 8, 12, 13, END)
        source = "try:\n    {}\nexcept KeyError:\n    {}\nfinally:\n    6\n7"
        self.logs(source.format("1 // 0", "pass"), 1, 2, 3, 6, ("leave", "ZeroDivisionError"))
        self.logs(source.format("raise KeyError", "1 // 0"), 1, 2, 3, 4, 6, ("leave", "ZeroDivisionError"))
        self.logs("try:\n    pass\nfinally:\n    1 // 0", 1, 2, 4, ("leave", "ZeroDivisionError"))

    def test_with(self):
        setup = "class C:\n    __enter__ = lambda self: 1\n    def __exit__(self, *a):\n        return {}\n"
        inner = (("call", "C.<lambda>"), 2, ("return", 1))
        def leaves(result):
            return (("call", "C.__exit__"), 4, ("return", result))
        begin = (1, ("call", "C"), 1, 2, 3, END)
        self.logs(setup.format(0) + "with C():\n    6\n7", *begin, 5, *inner, 6, 5, *leaves(0), 7, END)
        self.logs(setup.format(0) + "with C() as x, C() as y:\n    6\n7", *begin, 5, *inner, *inner, 6, 5, *leaves(0), *leaves(0), 7, END)
        self.logs(setup.format(1) + "with C():\n    1 // 0\n7", *begin, 5, *inner, 6, 5, *leaves(1), 7, END)
        self.logs(setup.format(0) + "with C():\n    1 // 0\n7", *begin, 5, *inner, 6, 5, *leaves(0), ("leave", "ZeroDivisionError"))
        # The line of the With is told once more only if another one has been told.
        self.logs(setup.format(1) + "with C() as (x, y):\n    6\n7", *begin, 5, *inner, *leaves(1), 7, END)
        self.logs(setup.format(0) + "for i in [1, 2]:\n    with C():\n        continue", *begin, 5, 6, *inner, 7, 6, *leaves(0), 5, 6, *inner, 7, 6,
                  *leaves(0), 5, END)

    def test_functions(self):
        self.logs("def f(x):\n    return x\ntell(f(1))\nf(2)", 1, 3, ("call", "f"), 2, ("return", 1), ("tell", 1), 4, ("call", "f"), 2, ("return", 2), END)
        self.logs("def f():\n    pass\n    5\nf()", 1, 4, ("call", "f"), 2, 3, END, END)
        self.logs("@tell\n@tell\ndef f():\n    pass", 3, ("tell", ("function", "f")), ("tell", None), END)
        self.logs("def f():\n    if 1:\n        return\n    5\nf()", 1, 5, ("call", "f"), 2, 3, END, END)

    def test_lambdas_and_comprehensions(self):
        self.logs("f = lambda: 1\nf()", 1, 2, ("call", "<lambda>"), 1, ("return", 1), END)
        self.logs("[x for x in (1, 2) if x]", 1, ("call", "<listcomp>"), 1, 1, 1, ("return", ("list", 1, 2)), END)
        self.logs("[x for x in ()]", 1, ("call", "<listcomp>"), 1, ("return", ("list",)), END)
        self.logs("{x: y for x in (1, 2) for y in (3,)}", 1, ("call", "<dictcomp>"), 1, 1, 1, 1, 1, ("return", ("dict", (1, 3), (2, 3))), END)
        self.logs("[x for x in (1, 2) if x > 5]", 1, ("call", "<listcomp>"), 1, 1, 1, ("return", ("list",)), END)
        self.logs("list(x for x in (1, 2))", 1, ("call", "<genexpr>"), 1, ("yield", 1), ("call", "<genexpr>"), 1, ("yield", 2),
                  ("call", "<genexpr>"), 1, ("return", None), END)
        self.logs("[(lambda: x)() for x in (1,)]", 1, ("call", "<listcomp>"), 1, ("call", "<listcomp>.<locals>.<lambda>"), 1, ("return", 1), 1,
                  ("return", ("list", 1)), END)

    def test_classes(self):
        self.logs("class C:\n    x = 1\n    def m(self):\n        return 2\n    class D:\n        pass\nC().m()", 1, ("call", "C"), 1, 2, 3, 5,
                  ("call", "C.D"), 5, 6, END, END, 7, ("call", "C.m"), 4, ("return", 2), END)
        self.logs("class C:\n    1 // 0", 1, ("call", "C"), 1, 2, ("leave", "ZeroDivisionError"), ("leave", "ZeroDivisionError"))

    def test_a_line_is_told_once_for_each_frame(self):
        self.logs("def f():\n    return g()\ndef g():\n    return 1\nx = f() + f()", 1, 3, 5, ("call", "f"), 2, ("call", "g"), 4, ("return", 1), ("return", 1),
                  ("call", "f"), 2, ("call", "g"), 4, ("return", 1), ("return", 1), END)


class WaysOutTests(RunTests):
    """Return, Break, Continue and Raise out of Try and With within one another and within loops."""

    setup = """
def show(x):
    tell(x)
    return x
class C:
    def __init__(self, n, away=False):
        self.n = n
        self.away = away
    def __enter__(self):
        tell("in", self.n)
        return self.n
    def __exit__(self, kind, value, trace):
        tell("out", self.n, kind, value, trace)
        return self.away
"""

    def tells(self, source, *due):
        log, outcome = run_source(self, self.setup + source)
        found = [entry[1] if len(entry) == 2 else entry[1:] for entry in log if entry[0] == "tell"]
        if outcome[0] == "raised":
            found.append(outcome[1])
        self.assertEqual(found, list(due), source)

    def out(self, n, word=None, *arguments):
        fault = (("class", word), ("instance", word, arguments)) if word else (None, None)
        return ("out", n, *fault, None)

    def test_out_of_finalbodies(self):
        for leave, due in (
            ("return show(1)", (1, 5, ("list", 1))), ("break", (5, 9, ("list", None))), ("continue", (5, 5, 9, ("list", None))),
            ("raise KeyError", (5, "KeyError")), ("pass", (5, 5, 9, ("list", None))),
        ):
            source = f"def f():\n    for i in (1, 2):\n        try:\n            {leave}\n        finally:\n            tell(5)\n    tell(9)\ntell([f()])"
            self.tells(source, *due)
            source = f"def f():\n    n = 2\n    while n:\n        n -= 1\n        try:\n            {leave}\n        finally:\n            tell(5)\n    tell(9)\ntell([f()])"
            self.tells(source, *due)

    def test_a_finalbody_that_leaves_itself(self):
        for first in ("return show(1)", "break", "continue", "raise KeyError", "pass"):
            told = (1,) if first.startswith("return") else ()
            for second, due in (("return show(2)", (2, ("list", 2))), ("break", (9, ("list", None))), ("raise ValueError", ("ValueError",)),
                                ("continue", (9, ("list", None)))):
                source = (f"def f():\n    for i in (1,):\n        try:\n            {first}\n        finally:\n            {second}\n    tell(9)\ntell([f()])")
                self.tells(source, *told, *due)

    def test_contexts_of_what_is_raised_in_a_finalbody(self):
        self.tells("try:\n    try:\n        raise KeyError(1)\n    finally:\n        raise ValueError(2)\nexcept ValueError as e:\n    tell(e.__context__)",
                   ("instance", "KeyError", (1,)))
        self.tells("try:\n    try:\n        pass\n    finally:\n        raise ValueError(2)\nexcept ValueError as e:\n    tell(e.__context__)", None)
        self.tells("def f():\n    try:\n        raise KeyError(1)\n    finally:\n        try:\n            raise\n        except KeyError as e:\n            tell(e)\n        return 5\ntell(f())\nraise",
                   ("instance", "KeyError", (1,)), 5, "RuntimeError")

    def test_out_of_handlers(self):
        for leave, due in (
            ("return show(1)", (1, 7, ("list", 1))), ("break", (7, 9, ("list", None))), ("continue", (7, 7, 9, ("list", None))),
            ("raise KeyError", (7, "KeyError")), ("raise", (7, "ValueError")), ("pass", (7, 7, 9, ("list", None))),
        ):
            for name in ("", " as e"):
                source = (f"def f():\n    for i in (1, 2):\n        try:\n            raise ValueError\n        except ValueError{name}:\n            {leave}\n"
                          "        finally:\n            tell(7)\n    tell(9)\ntell([f()])\nraise")
                self.tells(source, *due, *(() if isinstance(due[-1], str) else ("RuntimeError",)))

    def test_out_of_orelse(self):
        self.tells("def f():\n    try:\n        tell(1)\n    except KeyError:\n        tell(2)\n    else:\n        return show(3)\n    finally:\n        tell(4)\ntell([f()])", 1, 3, 4, ("list", 3))
        # What is raised in the orelse is not handled by the handlers.
        self.tells("try:\n    try:\n        pass\n    except KeyError:\n        tell(2)\n    else:\n        raise KeyError\n    finally:\n        tell(4)\nexcept KeyError:\n    tell(5)", 4, 5)

    def test_within_one_another(self):
        source = """
def f(k):
    for i in (1, 2):
        try:
            try:
                try:
                    if k == 0:
                        return show("r")
                    if k == 1:
                        break
                    if k == 2:
                        continue
                    if k == 3:
                        raise KeyError
                    tell("end")
                finally:
                    tell("a")
            except KeyError:
                tell("h")
                if i == 2:
                    return show("s")
            finally:
                tell("b")
        finally:
            tell("c")
    else:
        tell("else")
    return i
for k in range(5):
    tell([f(k)])
"""
        self.tells(source, "r", "a", "b", "c", ("list", "r"), "a", "b", "c", ("list", 1), "a", "b", "c", "a", "b", "c", "else", ("list", 2), "a", "h", "b",
                   "c", "a", "h", "s", "b", "c", ("list", "s"), "end", "a", "b", "c", "end", "a", "b", "c", "else", ("list", 2))

    def test_out_of_contexts(self):
        for leave, due in (
            ("return show(1)", (1, self.out(5), ("list", 1))), ("break", (self.out(5), 9, ("list", None))),
            ("continue", (self.out(5), ("in", 5), self.out(5), 9, ("list", None))), ("raise KeyError(3)", (self.out(5, "KeyError", 3), "KeyError")),
            ("pass", (self.out(5), ("in", 5), self.out(5), 9, ("list", None))),
        ):
            source = f"def f():\n    for i in (1, 2):\n        with C(5):\n            {leave}\n    tell(9)\ntell([f()])"
            self.tells(source, ("in", 5), *due)

    def test_one_to_four_items(self):
        for many in (1, 2, 3, 4):
            items = ", ".join(f"C({at})" for at in range(many))
            into = [("in", at) for at in range(many)]
            out = [self.out(at) for at in reversed(range(many))]
            self.tells(f"with {items}:\n    tell(8)", *into, 8, *out)
            self.tells(f"def f():\n    with {items}:\n        return show(7)\ntell(f())", *into, 7, *out, 7)
            failed = [self.out(at, "KeyError", 1) for at in reversed(range(many))]
            self.tells(f"with {items}:\n    raise KeyError(1)", *into, *failed, "KeyError")
            # One puts the exception away; those around it are left without one.
            for away in range(many):
                items = ", ".join(f"C({at}, {at == away})" for at in range(many))
                due = [self.out(at, "KeyError", 1) if at >= away else self.out(at) for at in reversed(range(many))]
                self.tells(f"with {items}:\n    raise KeyError(1)\ntell(9)", *into, *due, 9)

    def test_items_that_fail(self):
        setup = "class D:\n    def __init__(self, n):\n        self.n = n\n    def __enter__(self):\n        raise KeyError(self.n)\n    __exit__ = C.__exit__\n"
        self.tells(setup + "with C(1), D(2), C(3):\n    tell(8)", ("in", 1), self.out(1, "KeyError", 2), "KeyError")
        self.tells(setup + "with C(1, True), D(2):\n    tell(8)\ntell(9)", ("in", 1), self.out(1, "KeyError", 2), 9)
        self.tells("with C(1) as (a, b):\n    tell(8)", ("in", 1), self.out(1, "TypeError"), "TypeError")
        self.tells("with C(1), C(2) as x[0]:\n    tell(8)", ("in", 1), ("in", 2), self.out(2, "NameError"), self.out(1, "NameError"), "NameError")
        self.tells("with C(1), 5:\n    tell(8)", ("in", 1), self.out(1, "TypeError"), "TypeError")

    def test_exits_that_raise(self):
        setup = "class X(C):\n    def __exit__(self, kind, value, trace):\n        tell(self.n, value)\n        raise ValueError(self.n)\n"
        self.tells(setup + "try:\n    with X(1), X(2):\n        pass\nexcept ValueError as e:\n    tell(e, e.__context__)", ("in", 1), ("in", 2), (2, None),
                   (1, ("instance", "ValueError", (2,))), (("instance", "ValueError", (1,)), ("instance", "ValueError", (2,))))
        self.tells(setup + "try:\n    with X(1):\n        raise KeyError(7)\nexcept ValueError as e:\n    tell(e.__context__)", ("in", 1),
                   (1, ("instance", "KeyError", (7,))), ("instance", "KeyError", (7,)))
        self.tells(setup + "def f():\n    with C(1, True), X(2):\n        return 5\ntell(f())", ("in", 1), ("in", 2), (2, None), self.out(1, "ValueError", 2), None)

    def test_what_exits_return(self):
        setup = "class B:\n    def __bool__(self):\n        tell(6)\n        return {}\nclass X(C):\n    def __exit__(self, *a):\n        return B()\n"
        self.tells(setup.format("True") + "with X(1):\n    raise KeyError\ntell(9)", ("in", 1), 6, 9)
        self.tells(setup.format("False") + "with X(1):\n    raise KeyError", ("in", 1), 6, "KeyError")
        self.tells(setup.format("5") + "try:\n    with X(1):\n        raise KeyError\nexcept TypeError as e:\n    tell(e.__context__)", ("in", 1), 6, ("instance", "KeyError", ()))
        # Without an exception its truth does not matter.
        self.tells(setup.format("5") + "with X(1):\n    pass\ntell(9)", ("in", 1), 9)

    def test_methods_that_are_missing(self):
        setup = "def e(self):\n    tell(1)\ndef x(self, *a):\n    tell(2)\n"
        self.tells(setup + "class K:\n    __enter__ = e\nwith K():\n    pass", "TypeError")
        self.tells(setup + "class K:\n    __exit__ = x\nwith K():\n    pass", "TypeError")
        self.tells(setup + "class K:\n    __enter__ = e\n    __exit__ = 5\nwith K():\n    pass", "TypeError")
        self.tells(setup + "class K:\n    __enter__ = len\n    __exit__ = x\nwith K():\n    pass", "TypeError")
        self.tells(setup + "class K:\n    pass\nk = K()\nk.__enter__ = e\nk.__exit__ = x\nwith k:\n    pass", "TypeError")
        self.tells(setup + "class K:\n    __enter__ = e\n    __exit__ = x\nclass L(K):\n    pass\nwith L():\n    pass", 1, 2)
        for value in ("None", "5", "len", "[]", "object", "object()"):
            self.tells(f"with {value}:\n    pass", "TypeError")

    def test_the_handled_exception_in_an_exit(self):
        self.tells("class X(C):\n    def __exit__(self, *a):\n        try:\n            raise\n        except KeyError as e:\n            tell(e)\n        return True\n"
                   "with X(1):\n    raise KeyError(5)\nraise", ("in", 1), ("instance", "KeyError", (5,)), "RuntimeError")


class TraceTests(RunTests):
    def trace(self, source, *due):
        self.assertEqual(run_source(self, source)[1][3], list(due), f"\n{lines(source)}")

    def test_through_functions(self):
        self.trace("def f():\n    g()\ndef g():\n    x = 1\n    1 // 0\nf()", ("<module>", 6), ("f", 2), ("g", 5))
        self.trace("class C:\n    def m(self):\n        return [1 // 0 for x in [1]]\nC().m()", ("<module>", 4), ("C.m", 3), ("C.m.<locals>.<listcomp>", 3))
        self.trace("class C:\n    1 // 0", ("<module>", 1), ("C", 2))
        self.trace("(lambda:\n  x)()", ("<module>", 1), ("<lambda>", 1))

    def test_raised_again(self):
        self.trace("def f():\n    try:\n        g()\n    except KeyError:\n        raise\ndef g():\n    raise KeyError\nf()", ("<module>", 8), ("f", 3), ("g", 7))
        self.trace("def f():\n    try:\n        g()\n    finally:\n        5\ndef g():\n    raise KeyError\nf()", ("<module>", 8), ("f", 3), ("g", 7))
        self.trace("try:\n    1 // 0\nexcept KeyError:\n    pass", ("<module>", 2))
        # With a value the frame is put ahead once more.
        self.trace("try:\n    raise KeyError\nexcept KeyError as e:\n    raise e", ("<module>", 4), ("<module>", 2))
        self.trace("def f():\n    raise e\ne = KeyError()\ntry:\n    f()\nexcept KeyError:\n    pass\nf()", ("<module>", 8), ("f", 2), ("<module>", 5), ("f", 2))
        # Nothing is put ahead where nothing is handled, either.
        self.trace("raise", *[])
        self.trace("def f():\n    raise\nf()", ("<module>", 3))

    def test_lines_of_statements_that_are_gone_through_again(self):
        self.trace("i = iter([1])\nfor x, y in [(1, 2), 5]:\n    pass", ("<module>", 2))
        self.trace("x = [1, 0]\nwhile 1 // x.pop(0):\n    pass", ("<module>", 2))
        self.trace("try:\n    1 // 0\nexcept x:\n    pass", ("<module>", 3))
        self.trace("class X:\n    def __enter__(self):\n        pass\n    def __exit__(self, *a):\n        1 // 0\nwith X():\n    pass", ("<module>", 6), ("X.__exit__", 5))
        self.trace("class X:\n    def __enter__(self):\n        pass\n    def __exit__(self, *a):\n        pass\nwith X():\n    1 // 0", ("<module>", 7))
        self.trace("def f():\n    with X():\n        return 1\nclass X:\n    def __enter__(self):\n        pass\n    def __exit__(self, *a):\n        1 // 0\nf()",
                   ("<module>", 9), ("f", 2), ("X.__exit__", 8))

    def test_generators(self):
        self.trace("def g():\n    yield 1\n    1 // 0\nfor x in g():\n    pass", ("<module>", 4), ("g", 3))
        self.trace("def g():\n    yield 1\n    yield from h()\ndef h():\n    yield 2\n    1 // 0\nlist(g())", ("<module>", 7), ("g", 3), ("h", 6))
        self.trace("def g():\n    x = 5\n    yield 1\n    pass\ni = g()\nnext(i)\ni.throw(KeyError)", ("<module>", 7), ("g", 3))
        self.trace("def g():\n    yield 1\ni = g()\ni.throw(KeyError)", ("<module>", 4), ("g", 1))
        self.trace("def g():\n    yield 1\n    raise StopIteration\nlist(g())", ("<module>", 4))

    def test_the_outcome(self):
        self.assertEqual(run_source(self, "def f():\n    raise ValueError(1, [2], len)\nf()")[1],
                         ("raised", "ValueError", (1, ("list", 2), ("builtin", "len")), [("<module>", 3), ("f", 2)]))
        self.assertEqual(run_source(self, "class E(KeyError):\n    def __init__(self, x):\n        pass\nraise E(5)")[1], ("raised", "E", (5,), [("<module>", 4)]))


class FrameTests(RunTests):
    def test_the_seventeenth_frame(self):
        source = "n = 0\ndef f():\n    global n\n    n += 1\n    f()\ntry:\n    f()\nexcept RecursionError as e:\n    tell(n, e)"
        log, outcome = run_source(self, source)
        self.assertEqual(outcome, ("returned",))
        self.assertIn(("tell", 15, ("instance", "RecursionError", ())), log)
        self.assertEqual(len([entry for entry in log if entry == ("call", "f")]), 15)
        self.assertEqual(len([entry for entry in log if entry == ("leave", "RecursionError")]), 15)

    def deep(self, inner, most=2000):
        """What `inner` gives in the sixteenth frame."""
        source = f"def f(n):\n    return f(n - 1) if n else {inner}\ndef g():\n    yield 1\nclass C:\n    def __init__(self):\n        pass\n    def __bool__(self):\n        return True\n" \
                 "    def m(self):\n        pass\nclass E(KeyError):\n    pass\nheld = g()\nbegun = g()\nnext(begun)\nc = C()\ntry:\n    tell(f(14))\nexcept Exception as e:\n    tell(e)"
        return [entry[1] for entry in run_source(self, source, most)[0] if entry[0] == "tell"][0]

    def test_what_begins_a_frame(self):
        fault = ("instance", "RecursionError", ())
        for inner, due in (
            ("1", 1), ("len([])", 0), ("(lambda: 1)()", fault), ("[x for x in []]", fault), ("next(held)", fault), ("list(held)", fault),
            ("C()", fault), ("c.m()", fault), ("not c", fault), ("held.throw(KeyError)", fault), ("begun.close()", fault), ("begun.throw(KeyError)", fault),
            # Making a generator begins none.
            ("g()", ("generator", "g")), ("held.close()", None), ("(x for x in [])", ("generator", "f.<locals>.<genexpr>")), ("E()", ("instance", "E", ())),
            # The values are bound first.
            ("(lambda: 1)(2)", ("instance", "TypeError", ())), ("held.send(5)", ("instance", "TypeError", ())),
        ):
            self.assertEqual(self.deep(inner), due, inner)

    def test_what_does_not_begin_is_as_it_was(self):
        source = "def g():\n    yield 1\n    yield 2\ni = g()\nnext(i)\ndef f(n):\n    return f(n - 1) if n else {}\ntry:\n    f(14)\nexcept RecursionError:\n    tell(next(i))"
        for inner in ("next(i)", "i.throw(KeyError)", "i.close()"):
            log, _ = run_source(self, source.format(inner))
            self.assertIn(("tell", 2), log)

    def test_frames_that_have_ended_do_not_count(self):
        source = "def f():\n    pass\ndef g():\n    yield 1\nfor i in range(40):\n    f()\n    list(g())\n    try:\n        f(1)\n    except TypeError:\n        pass\ntell(1)"
        self.assertIn(("tell", 1), run_source(self, source)[0])


class LimitTests(RunTests):
    source = """
        def g():
            try:
                x = yield 1
                tell(x)
            finally:
                tell(5)
        class C:
            def __enter__(self):
                return 1
            def __exit__(self, *a):
                return True
        i = g()
        next(i)
        with C():
            i.throw(KeyError)
        tell([k for k in range(3)])
        1 // 0
    """

    def test_each_number_of_entries(self):
        tree = tree_of(self.source)
        log, outcome = run_tree(self, tree)
        self.assertEqual(outcome[:2], ("raised", "ZeroDivisionError"))
        for most in range(1, len(log) + 3):
            found, due = run_tree(self, tree, most), ("stopped",) if most <= len(log) else outcome
            self.assertEqual(found, (log[:most], due))

    def test_programs_that_go_on_for_ever(self):
        for source in ("while True:\n    pass", "x = [1]\nfor y in x:\n    x.append(y)", "def f():\n    while 1:\n        yield 1\nfor x in f():\n    pass",
                       "class C:\n    def __iter__(self):\n        return self\n    def __next__(self):\n        return 1\nlist(C())",
                       "while 1:\n    try:\n        1 // 0\n    except:\n        continue"):
            for most in (1, 2, 50, 3000):
                log, outcome = run_source(self, source, most)
                self.assertEqual((len(log), outcome), (most, ("stopped",)))

    def test_a_long_log(self):
        log, outcome = run_source(self, "for i in range(40000):\n    pass", 100000)
        self.assertEqual((len(log), outcome), (80003, ("returned",)))


class RefusedTests(RunTests):
    def test_what_is_no_code(self):
        function = made("RESUME; RETURN_CONST 0", flags=3)
        slotted = made("COPY_FREE_VARS 1; RESUME; RETURN_CONST 0", slots=("a",), kinds=(128,))
        for thing in [*junk(), None, True, 5, "code", (), [], Code, function, slotted]:
            for most in (100, 0, None):
                with self.assertRaises(NoCode) as caught:
                    run(thing, most)
                self.assertEqual(caught.exception.field, "code")

    def test_what_is_no_number(self):
        tree = tree_of("pass")
        for value in (0, -1, 100001, 10 ** 20, True, False, None, "5", 5.0, [], (), {}):
            for action, thing in ((run, compiled(tree)), (walk, tree)):
                with self.assertRaises(NoNumber) as caught:
                    action(thing, value)
                self.assertIs(caught.exception.value, value)
        for most in (1, 2, 100000):
            self.assertEqual(run(code=compiled(tree), most=most), walk(tree=tree, most=most))

    def test_trees_and_programs_go_ahead_of_numbers(self):
        for tree in ([], None, [("Pass", 0)], [("Break", 1), ("Pass", 1)]):
            with self.assertRaises(NoTree):
                walk(tree, 0)
        for source, word in (
            ("return 1", "return"), ("break", "break"), ("continue", "continue"), ("yield 1", "yield"), ("class C:\n    return 1", "return"),
            ("try:\n    pass\nexcept:\n    pass\nexcept KeyError:\n    pass", "bare"), ("f(a=1, a=2)", "twice"), ("nonlocal x", "outside"),
            ("def f():\n    nonlocal x", "unbound"), ("def f(a):\n    global a", "parameter"), ("x\nglobal x", "late"), ("def f(a, a):\n    pass", "again"),
            ("def f():\n    global a\n    nonlocal a", "both"), ("[(yield) for x in y]", "inside"), ("[x for x in (y := z)]", "iterable"),
            ("[x := 1 for x in y]", "rebound"), ("class C:\n    [x := 1 for y in z]", "body"),
        ):
            with self.assertRaises(NoProgram) as caught:
                walk(self.tree(source), 0)
            self.assertEqual(caught.exception.why, word)

    def tree(self, source):
        if source == "f(a=1, a=2)":
            return [("Expr", 1, ("Call", ("Name", "f"), [], [("a", ("Constant", 1)), ("a", ("Constant", 2))]))]
        if source.startswith("def f(a, a)"):
            return [("Function", 1, "f", (["a", "a"], [], None, [], [], None), [("Pass", 2)], [])]
        return tree_of(source)

    def test_the_tree_and_the_code_stay(self):
        tree = tree_of(LimitTests.source)
        kept, code = repr(tree), compiled(tree)
        data = written(code)
        first = run(code, 500)
        self.assertEqual(run(code, 500), first)
        self.assertEqual(walk(tree, 500), first)
        self.assertEqual((repr(tree), written(code)), (kept, data))
        first[0].append("more")
        self.assertNotEqual(run(code, 500), first)


class RandomTests(RunTests):
    def test_all_ways_to_run_tell_the_same(self):
        pick = numbers(91)
        words = {}
        for _ in range(110):
            tree = RunMaker(pick, pick.choice((10, 30, 50))).program()
            try:
                compiled(tree)
            except NoProgram:
                continue
            log, outcome = run_tree(self, tree, 1500)
            words[outcome[0] if outcome[0] != "raised" else outcome[1]] = True
            cut = pick.randint(1, len(log))
            self.assertEqual(run_tree(self, tree, cut), (log[:cut], ("stopped",)))
            self.assertEqual(run(read(written(compiled(tree))), 1500), (log, outcome))
        self.assertGreater(len(words), 7)


if __name__ == "__main__":
    unittest.main()
