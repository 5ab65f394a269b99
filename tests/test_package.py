"""What holds over the whole package: section 2 for every function, and programs put beside and into one another."""

import copy
import itertools
import sys
import textwrap
import unittest

from codewalk.assembly import assembled, compiled
from codewalk.changes import changed, moved, renamed
from codewalk.codes import Code
from codewalk.errors import NoTree
from codewalk.flow import flowed
from codewalk.generate import generated
from codewalk.judging import judged
from codewalk.machine import run
from codewalk.marshalled import read, written
from codewalk.scopes import scopes
from codewalk.tables import exception_bytes, exception_rows, line_bytes, line_rows
from codewalk.telling import bytes_of, instructions
from codewalk.trees import check
from codewalk.walker import walk
from tests.rows import heads_of
from tests.samples import with_tuples
from tests.source import run_source, run_tree, told, tree_of
from tests.test_check_wrong import junk

PROGRAMS = (
    """
    def f(a, *b, c=2, **d):
        x = [a, *b]
        try:
            x.append(1 // a)
        except ZeroDivisionError as e:
            tell(e)
        finally:
            tell(x)
        return x
    for i in range(3):
        tell(f(i, 5, k=6))
    """,
    """
    class A:
        n = 0
        def __init__(self, v):
            self.v = v
            A.n += 1
        def __iter__(self):
            for k in range(self.v):
                yield k * k
    tell(list(A(4)), A.n)
    tell([(y, z) for y in A(2) for z in A(y) if z or y])
    """,
    """
    def g():
        while True:
            x = yield
            if x is None:
                return "end"
            tell(x)
    h = g()
    next(h)
    for v in (1, "two", [3]):
        h.send(v)
    try:
        next(h)
    except StopIteration as s:
        tell(s.value)
    """,
    """
    class C:
        def __enter__(self):
            tell("in")
            return 7
        def __exit__(self, *a):
            tell("out", a)
            return True
    with C() as c, C():
        tell(c)
        {}[c]
    tell("behind")
    """,
    """
    n = 5
    k = 1
    while n:
        k *= n
        n -= 1
        if n == 2:
            continue
        tell(n, k)
    else:
        tell("else")
    """,
    """
    def outer():
        total = 0
        def add(n):
            nonlocal total
            total += n
            return total
        return add
    add = outer()
    tell([add(j) for j in (1, 2, 3)], {j: add(j) for j in (4, 5)})
    del add
    """,
)


def text(source):
    return textwrap.dedent(source).strip("\n")


def indented(source, by="    "):
    return textwrap.indent(text(source), by)


class RuleTests(unittest.TestCase):
    def functions(self):
        """Each function with arguments by their names, and what it is to return."""
        tree = tree_of(PROGRAMS[0])
        rows = generated(tree)
        head = heads_of(tree)[1]
        flow = flowed(rows[1], head)
        code = compiled(tree)
        codes = [compiled(tree_of("pass"))] * 4
        inner = [constant for constant in code.constants if isinstance(constant, Code)][0]
        told_rows = [(word, argument) for _, word, argument, _, _ in instructions(code) if word != "EXTENDED_ARG"]
        return (
            (check, {"tree": tree}), (scopes, {"tree": tree}), (generated, {"tree": tree}), (flowed, {"rows": rows[1], "head": head, "passes": False}),
            (assembled, {"rows": flow, "head": head, "codes": codes}), (compiled, {"tree": tree, "passes": True}), (exception_rows, {"code": inner}),
            (line_rows, {"code": inner}), (exception_bytes, {"rows": exception_rows(inner)}), (line_bytes, {"rows": line_rows(inner), "line": 1}),
            (written, {"code": code}), (read, {"data": list(written(code))}), (judged, {"code": code}), (run, {"code": code, "most": 300}),
            (walk, {"tree": tree, "most": 300}), (changed, {"one": tree, "other": moved(tree, 3, 2)}), (moved, {"tree": tree, "line": 2, "more": 3}),
            (renamed, {"tree": tree, "number": 1, "name": "x", "other": "w"}), (instructions, {"code": code}), (bytes_of, {"rows": told_rows}),
        )

    def test_by_place_by_name_and_again(self):
        for function, arguments in self.functions():
            kept = repr(arguments)
            first = function(*arguments.values())
            self.assertEqual(function(**arguments), first, function)
            self.assertEqual(function(**dict(reversed(arguments.items()))), first, function)
            self.assertEqual(repr(arguments), kept, function)

    def test_rows_as_lists_and_tuples(self):
        for function, arguments in self.functions():
            first = function(**arguments)
            for turn in (tuple, list):
                given = {key: turn(value) if isinstance(value, (list, tuple)) and key not in ("head",) else value for key, value in arguments.items()}
                self.assertEqual(function(**given), first, function)
            given = {key: with_tuples(value) if key in ("tree", "one", "other") and not isinstance(value, str) else value for key, value in arguments.items()}
            self.assertEqual(function(**given), first, function)

    def test_what_is_returned_is_new(self):
        def spoil(value):
            if isinstance(value, (list, tuple)):
                for inner in value:
                    spoil(inner)
            if isinstance(value, list):
                value.clear()
            if isinstance(value, dict):
                value.clear()
        for function, arguments in self.functions():
            kept = repr(arguments)
            first = function(**arguments)
            due = copy.deepcopy(first) if not isinstance(first, Code) else first
            spoil(first)
            self.assertEqual(repr(arguments), kept, function)
            self.assertEqual(function(**arguments), due, function)

    def test_changes_after_the_call_have_no_effect(self):
        tree = tree_of(PROGRAMS[0])
        code, due = compiled(tree), compiled(tree_of(PROGRAMS[0]))
        shifted = moved(tree, 1, 1)
        tree.clear()
        self.assertEqual(code, due)
        self.assertEqual(shifted, moved(tree_of(PROGRAMS[0]), 1, 1))

    def test_every_function_that_takes_a_tree_refuses_others_first(self):
        bad = [*junk(), None, [], [("Pass", 0)], [("Return", 1)], "x", 5]
        for thing in bad:
            for call in (
                lambda: check(thing), lambda: scopes(thing), lambda: generated(thing), lambda: compiled(thing), lambda: walk(thing, -1), lambda: changed(thing, None),
                lambda: changed([("Pass", 1)], thing), lambda: moved(thing, 1, -1), lambda: renamed(thing, -1, None, None),
            ):
                with self.assertRaises(NoTree):
                    call()

    def test_equal_calls_do_not_meet(self):
        """Runs of other programs between two equal ones leave no trace."""
        trees = [tree_of(source) for source in PROGRAMS]
        first = [run_tree(self, tree) for tree in trees]
        for one, other in itertools.permutations(range(len(trees)), 2):
            walk(trees[one], 7)
            self.assertEqual(walk(trees[other], 2000), first[other])


class BesideTests(unittest.TestCase):
    def test_two_programs_one_behind_the_other(self):
        for one, other in itertools.product(PROGRAMS, PROGRAMS):
            lines = len(text(one).split("\n"))
            log, outcome = run_source(self, f"{text(one)}\n{text(other)}")
            first, _ = run_source(self, one)
            second, _ = run_tree(self, moved(tree_of(other), 1, lines))
            self.assertEqual((log, outcome), (first[:-1] + second[1:], ("returned",)))

    def test_a_program_behind_one_that_ends_with_an_exception(self):
        log, outcome = run_source(self, f"1 // 0\n{text(PROGRAMS[0])}")
        self.assertEqual((log, outcome[1]), ([("call", "<module>"), ("line", 1), ("leave", "ZeroDivisionError")], "ZeroDivisionError"))


class TwoWaysTests(unittest.TestCase):
    pairs = (
        ("x = 5\nx += 2\ntell(x)", "x = 5\nx = x + 2\ntell(x)"),
        ("tell(not 1 == 2, not 1 in [1], not None is None)", "tell(1 != 2, 1 not in [1], None is not None)"),
        ("tell([x * x for x in range(4) if x])", "y = []\nfor x in range(4):\n    if x:\n        y.append(x * x)\ntell(y)"),
        ("tell(1 if [] else 2)", "if []:\n    tell(1)\nelse:\n    tell(2)"),
        ("tell(0 or 5, 3 and 4, 0 and 1)", "def o(a, b):\n    if a:\n        return a\n    return b\ndef n(a, b):\n    if not a:\n        return a\n    return b\ntell(o(0, 5), n(3, 4), n(0, 1))"),
        ("tell(1 < 2 < 3, 1 < 3 < 2)", "tell(1 < 2 and 2 < 3, 1 < 3 and 3 < 2)"),
        ("def f(x):\n    return x + 1\ntell(f(2))", "f = lambda x: x + 1\ntell(f(2))"),
        ("for x in 'ab':\n    tell(x)", "i = iter('ab')\nwhile (x := next(i, None)) is not None:\n    tell(x)"),
        ("a, b = 1, 2\na, b = b, a\ntell(a, b)", "a = 1\nb = 2\nt = a\na = b\nb = t\ntell(a, b)"),
        ("def g():\n    yield from [1, 2]\ntell(list(g()))", "def g():\n    for x in [1, 2]:\n        yield x\ntell(list(g()))"),
        ("class C:\n    def m(self):\n        return 5\ntell(C().m())", "class C:\n    pass\nC.m = lambda self: 5\ntell(C.m(C()))"),
        ("try:\n    tell(1)\nfinally:\n    tell(2)", "tell(1)\ntell(2)"),
        ("try:\n    {}[1]\nexcept (ValueError, KeyError) as e:\n    tell(e)", "try:\n    {}[1]\nexcept ValueError as e:\n    tell(e)\nexcept KeyError as e:\n    tell(e)"),
        ("def f(*a, **k):\n    return (a, k)\ntell(f(1, 2, x=3))", "def f(*a, **k):\n    return (a, k)\ntell(f(*(1, 2), **{'x': 3}))"),
        ("@tell\ndef f():\n    pass", "def f():\n    pass\nf = tell(f)"),
        ("tell(2 + 3 * 4, -(1), (1, 2), not 0)", "a = 2\nb = 3\nc = 4\nd = 1\ne = 0\ntell(a + b * c, -d, (d, a), not e)"),
        ("assert 1 == 1, tell(5)\ntell(6)", "if not 1 == 1:\n    raise AssertionError(tell(5))\ntell(6)"),
        ("x = [1, 2, 3]\nx[0], *x[1:] = (4, 5, 6)\ntell(x)", "x = [1, 2, 3]\nx[0] = 4\nx[1:] = [5, 6]\ntell(x)"),
    )

    def test_one_thing_written_in_two_ways(self):
        for one, other in self.pairs:
            self.assertEqual(repr(told(self, one)), repr(told(self, other)), one)


class InsideTests(unittest.TestCase):
    """A stretch of a program put into what runs it once."""

    around = (
        ("if 1:\n{}", 1), ("if 0:\n    pass\nelse:\n{}", 3), ("for once in (0,):\n{}", 1), ("while True:\n{}\n    break", 1), ("try:\n{}\nfinally:\n    pass", 1),
        ("try:\n    pass\nexcept KeyError:\n    pass\nelse:\n{}", 5), ("try:\n    pass\nfinally:\n{}", 3), ("try:\n    raise KeyError\nexcept KeyError:\n{}", 3),
    )

    def test_the_same_values(self):
        for source, (frame, ahead) in itertools.product(PROGRAMS, self.around):
            whole = frame.format(indented(source))
            self.assertEqual(repr(told(self, whole)), repr(told(self, source)), whole)
            # The lines of the stretch are told as they are by itself, but for those of what is around it.
            many = len(text(source).split("\n"))
            found = [entry for entry in run_source(self, whole)[0] if entry[0] != "line" or ahead < entry[1] <= ahead + many]
            due, _ = run_tree(self, moved(tree_of(source), 1, ahead))
            self.assertEqual(found, due, whole)

    def test_in_a_function(self):
        for source in PROGRAMS:
            # All names are locals of it, or cells; it is called once.
            if "A.n" in source or "class" in source:
                continue
            self.assertEqual(repr(told(self, f"def once():\n{indented(source)}\nonce()")), repr(told(self, source)))
            self.assertEqual(repr(told(self, f"def once():\n{indented(source)}\n    yield 1\nfor x in once():\n    pass")), repr(told(self, source)))

    def test_in_a_context(self):
        setup = "class Once:\n    def __enter__(self):\n        pass\n    def __exit__(self, *a):\n        pass\n"
        for source in PROGRAMS:
            self.assertEqual(repr(told(self, f"{setup}with Once(), Once():\n{indented(source)}")), repr(told(self, source)))


def calls(action, *given):
    """How many functions are called, those of Python itself counted."""
    found = []
    sys.setprofile(lambda frame, event, _: found.append(event) if event in ("call", "c_call") else None)
    try:
        action(*given)
    finally:
        sys.setprofile(None)
    return len(found)


class CostTests(unittest.TestCase):
    def test_a_step_costs_the_same_however_long_the_code_is(self):
        loop = "for i in range(200):\n    x = i\n"
        for action in (lambda tree: run(compiled(tree), 5000), lambda tree: walk(tree, 5000)):
            plain = calls(action, tree_of(loop))
            behind = "\n".join(["if 0:"] + [f"    y = x + {at}" for at in range(80)]) + "\n"
            long = calls(action, tree_of("x = 0\nif x:\n" + behind.split("\n", 1)[1] + loop))
            once = calls(action, tree_of("x = 0\nif x:\n" + behind.split("\n", 1)[1]))
            self.assertLess(abs(long - once - plain), 0.2 * plain)

    def test_functions_in_one_another(self):
        """Thirteen functions, each with a lambda in it and the next one."""
        source = ""
        for depth in range(13):
            lines = [f"x = {depth}", "tell(x + 1, x)", "tell((lambda: x)())", "def f():" if depth < 12 else "pass"]
            source += "".join([f"{'    ' * depth}{line}\n" for line in lines])
        for depth in range(11, -1, -1):
            source += f"{'    ' * depth}f()\n"
        tree = tree_of(source)
        code = compiled(tree)
        self.assertEqual(len(run_tree(self, tree)[0]), 155)
        for action, most in (
            (lambda: compiled(tree), 14000), (lambda: compiled(tree, False), 12500), (lambda: run(code, 5000), 4200), (lambda: walk(tree, 5000), 6500),
        ):
            self.assertLess(calls(action), most)

    def test_a_flat_program(self):
        tree = tree_of("x = 3\n" + "".join([f"if x < {at}:\n    y = x + {at}\nelse:\n    tell(x)\n" for at in range(16)]))
        code = compiled(tree)
        for action, most in (
            (lambda: compiled(tree), 7800), (lambda: compiled(tree, False), 7000), (lambda: run(code, 5000), 1600), (lambda: walk(tree, 5000), 3800),
        ):
            self.assertLess(calls(action), most)

    def test_long_rows(self):
        rows = []
        for label in range(5):
            rows += [("LOAD_NAME", "x", 1, None), ("TO_BOOL", None, 1, None), ("POP_JUMP_IF_FALSE", label, 1, None)]
            rows += [("NOP", None, 1, None)] * 6550 + [("LABEL", label, None, None)]
        rows.append(("RETURN_CONST", None, 1, None))
        head = ("program", "<module>", "<module>", 1, ((), (), None, None), (), (), 0)
        code = assembled(rows, head)
        # Some calls for each row, not some tens.
        self.assertLess(calls(assembled, rows, head), 3 * len(rows))
        self.assertLess(calls(instructions, code), 6 * len(rows))


if __name__ == "__main__":
    unittest.main()
