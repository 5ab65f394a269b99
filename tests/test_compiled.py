"""Whole programs compiled."""

import sys
import unittest

from codewalk.assembly import assembled, compiled
from codewalk.codes import Code
from codewalk.errors import NoProgram, NoTree
from codewalk.flow import flowed
from codewalk.generate import generated
from codewalk.scopes import scopes
from tests.codes import codes_in
from tests.programs import Maker
from tests.samples import (
    assign, class_of, clause, constant, expr, function, name, numbers, showcase, small_trees, with_tuples,
)
from tests.test_check_walk import many_small_nodes

COMPREHENSIONS = {"list": "ListComp", "dict": "DictComp", "generator": "GeneratorExp"}


def all_opened(tree):
    """The nodes that open scopes, by the numbers of these; None for the program."""
    found = [None]

    def visit(node):
        if isinstance(node, list):
            for inner in node:
                visit(inner)
            return
        if not isinstance(node, tuple):
            return
        word = node[0] if node else None
        if word == "Function":
            visit([*node[3][1], *node[3][4], *node[5]])
            found.append(node)
            visit(node[4])
        elif word == "Lambda":
            visit([*node[1][1], *node[1][4]])
            found.append(node)
            visit(node[2])
        elif word == "Class":
            visit([*node[5], *node[3]])
            found.append(node)
            visit(node[4])
        elif word in COMPREHENSIONS.values():
            clauses = node[-1]
            visit(clauses[0][1])
            found.append(node)
            for at, (target, value, tests) in enumerate(clauses):
                visit([target, *([value] if at else []), *tests])
            visit(list(node[1:-1]))
        else:
            visit(list(node))

    visit(list(tree))
    return found


def has_own_yield(node):
    """Whether a function's or a lambda's node has a Yield that is its own."""
    inner = node[4] if node[0] == "Function" else [node[2]]

    def visit(part):
        if not isinstance(part, (list, tuple)):
            return False
        if isinstance(part, tuple) and part:
            word = part[0]
            if word in ("Yield", "YieldFrom"):
                return True
            if word == "Function":
                return visit([*part[3][1], *part[3][4], *part[5]])
            if word == "Lambda":
                return visit([*part[1][1], *part[1][4]])
            if word == "Class":
                return visit([*part[3], *part[5]])
            if word in COMPREHENSIONS.values():
                return visit(part[-1][0][1])
        return any(visit(piece) for piece in part)

    return visit(inner)


def heads(tree):
    """The heads of all codes, made of what `scopes` tells and of the nodes of the tree."""
    found = []
    table = scopes(tree)
    for at, ((word, own, path, parent, kinds, frees), node) in enumerate(zip(table, all_opened(tree))):
        function_scope = word not in ("program", "class")
        parameters = ((), (), None, None)
        if word in ("function", "lambda"):
            names, _, rest, only, _, more = node[3] if word == "function" else node[1]
            parameters = (tuple(names), tuple(only), rest, more)
        elif word in COMPREHENSIONS:
            parameters = ((".0",), (), None, None)
        flags = 0
        if function_scope:
            flags = 3 + 4 * (parameters[2] is not None) + 8 * (parameters[3] is not None)
            around = parent
            while around is not None and table[around][0] in ("program", "class"):
                around = table[around][3]
            flags += 16 * (around is not None)
            flags += 32 * (word == "generator" or (word in ("function", "lambda") and has_own_yield(node)))
        cells = tuple(sorted(held for held, kind in kinds.items() if kind == "cell"))
        found.append([word, own, path, None, parameters, cells, frees, flags])
    return found


def lines_of_scopes(tree):
    """The lines of the statements that open scopes."""
    found = {}

    def visit(part, line):
        if isinstance(part, tuple) and part and isinstance(part[0], str) and len(part) > 1:
            if isinstance(part[1], int) and not isinstance(part[1], bool) and part[0] not in ("Constant",):
                line = part[1]
        if isinstance(part, tuple) and len(part) == 4 and isinstance(part[0], int) and not isinstance(part[0], bool):
            line = part[0]
        if isinstance(part, (list, tuple)):
            found.setdefault(id(part), line)
            for piece in part:
                visit(piece, line)

    visit(tree, 1)
    return found


def parts_compiled(tree, passes):
    """The codes of a program made of its parts, from the innermost out, by the numbers of scopes."""
    rows, given, nodes, lines = generated(tree), heads(tree), all_opened(tree), lines_of_scopes(tree)
    codes = [None] * len(rows)
    for at in range(len(rows) - 1, -1, -1):
        given[at][3] = 1 if at == 0 else lines[id(nodes[at])]
        head = tuple(given[at])
        codes[at] = assembled(flowed(rows[at], head, passes), head, codes)
    return codes


class CompiledTests(unittest.TestCase):
    def test_the_example(self):
        code = compiled([assign(name("x"), ("BinOp", constant(2), "+", constant(3)))])
        self.assertEqual([code.code, code.constants, code.names, code.stacksize, code.lines],
                         [(149, 0, 83, 0, 114, 0, 103, 1), (5, None), ("x",), 1, (248, 234, 0)])

    def test_a_program_is_made_of_its_parts(self):
        trees = [*small_trees(), showcase()]
        pick = numbers(51)
        while len(trees) < 260:
            trees.append(Maker(pick, pick.choice((10, 40, 80))).program())
        told = 0
        for tree in trees:
            try:
                generated(tree)
            except NoProgram:
                continue
            told += 1
            for passes in (True, False):
                self.assertEqual(compiled(tree, passes), parts_compiled(tree, passes)[0])
        self.assertGreater(told, 150)

    def test_arguments_by_place_and_by_name(self):
        tree = [("If", 1, name("a"), [expr(name("b"), 2)], [])]
        self.assertEqual(compiled(tree), compiled(tree=tree, passes=True))
        self.assertEqual(compiled(tree, False), compiled(passes=False, tree=tree))
        self.assertNotEqual(compiled(tree), compiled(tree, False))

    def test_rows_as_lists_and_tuples(self):
        pick = numbers(52)
        for _ in range(30):
            tree = Maker(pick, 30).program()
            try:
                due = compiled(tree)
            except NoProgram:
                continue
            kept = repr(tree)
            self.assertEqual(compiled(with_tuples(tree)), due)
            self.assertEqual(compiled(tree), due)
            self.assertEqual(repr(tree), kept)

    def test_what_is_returned_is_not_shared_with_the_tree(self):
        body = [("Return", 2, constant("x"))]
        tree = [function("f", body)]
        code = compiled(tree)
        due = compiled([function("f", list(body))])
        body.append(("Pass", 3))
        tree.append(("Pass", 4))
        self.assertEqual(code, due)

    def test_no_tree_goes_ahead_of_no_program(self):
        with self.assertRaises(NoTree) as caught:
            compiled([("Break", 1), ("Pass", 1)])
        self.assertEqual(caught.exception.place, (1,))
        with self.assertRaises(NoProgram) as caught:
            compiled([("Break", 1), ("Nonlocal", 2, ["x"])])
        self.assertEqual((caught.exception.line, caught.exception.why), (2, "outside"))
        with self.assertRaises(NoProgram) as caught:
            compiled([("Pass", 1), ("Break", 2)])
        self.assertEqual((caught.exception.line, caught.exception.why), (2, "break"))
        for thing in (None, 5, "", [], (), {}, [5], [("Pass",)], Code):
            with self.assertRaises(NoTree):
                compiled(thing)


class CodesTests(unittest.TestCase):
    def code(self, tree, path):
        return [code for code in codes_in(compiled(tree)) if code.path == path][0]

    def test_names_paths_and_lines_of_all_codes(self):
        tree = [function("f", [
            class_of("C", [function("m", [("Return", 4, ("Lambda", ([], [], None, [], [], None), name("x")))], 3)], 2),
            assign(name("y"), ("ListComp", ("GeneratorExp", name("a"), [clause(name("a"), name("z"))]),
                               [clause(name("z"), name("y"))]), 9),
        ], 1)]
        for path, own, line in (
            ("<module>", "<module>", 1), ("f", "f", 1), ("f.<locals>.C", "C", 2), ("f.<locals>.C.m", "m", 3),
            ("f.<locals>.C.m.<locals>.<lambda>", "<lambda>", 4), ("f.<locals>.<listcomp>", "<listcomp>", 9),
            ("f.<locals>.<listcomp>.<locals>.<genexpr>", "<genexpr>", 9),
        ):
            code = self.code(tree, path)
            self.assertEqual((code.name, code.line), (own, line))

    def test_parameters_and_flags(self):
        taken = (["a", "b"], [constant(1)], "r", ["k"], [None], "m")
        tree = [function("f", [
            ("Return", 2, ("Lambda", (["x"], [], None, [], [], None), ("Yield", name("a")))),
        ], 1, taken)]
        code = self.code(tree, "f")
        self.assertEqual((code.argcount, code.onlycount, code.flags), (2, 1, 15))
        self.assertEqual((code.slots, code.kinds), (("a", "b", "k", "r", "m"), (96, 32, 32, 32, 32)))
        inner = self.code(tree, "f.<locals>.<lambda>")
        self.assertEqual((inner.argcount, inner.onlycount, inner.flags), (1, 0, 51))
        self.assertEqual((inner.slots, inner.kinds), (("x", "a"), (32, 128)))

    def test_flags_of_each_sort(self):
        body = [("Pass", 3)]
        for taken, due in (
            (([], [], None, [], [], None), 3), (([], [], "r", [], [], None), 7), (([], [], None, [], [], "m"), 11),
            (([], [], None, ["k"], [None], None), 3),
        ):
            self.assertEqual(self.code([function("f", [("Pass", 2)], 1, taken)], "f").flags, due)
        generator = [expr(("YieldFrom", name("x")), 2)]
        self.assertEqual(self.code([function("f", generator)], "f").flags, 35)
        self.assertEqual(self.code([class_of("C", [function("f", body, 2)])], "C").flags, 0)
        self.assertEqual(self.code([class_of("C", [function("f", body, 2)])], "C.f").flags, 3)
        # A function scope around counts at any distance, a comprehension too.
        deep = [function("g", [class_of("C", [function("f", body, 3)], 2)])]
        body[0] = ("Pass", 4)
        self.assertEqual(self.code(deep, "g.<locals>.C").flags, 0)
        self.assertEqual(self.code(deep, "g.<locals>.C.f").flags, 19)
        for word, path in (("ListComp", "<listcomp>"), ("GeneratorExp", "<genexpr>")):
            tree = [expr((word, ("Lambda", ([], [], None, [], [], None), constant(1)), [clause(name("a"))]))]
            self.assertEqual(self.code(tree, path).flags, 3 + 32 * (word == "GeneratorExp"))
            self.assertEqual(self.code(tree, f"{path}.<locals>.<lambda>").flags, 19)
        self.assertEqual(compiled([("Pass", 1)]).flags, 0)

    def test_cells_and_free_names(self):
        tree = [function("f", [
            function("g", [("Return", 3, ("Tuple", [name("a"), name("z"), name("b")]))], 2),
            assign(name("z"), constant(1), 4), assign(name("b"), constant(2), 5),
        ], 1, (["a"], [], None, [], [], None))]
        code = self.code(tree, "f")
        self.assertEqual((code.slots, code.kinds), (("a", "g", "b", "z"), (96, 32, 64, 64)))
        inner = self.code(tree, "f.<locals>.g")
        self.assertEqual((inner.slots, inner.kinds), (("a", "b", "z"), (128, 128, 128)))

    def test_two_equal_functions_are_two_constants(self):
        code = compiled([function("f", [("Pass", 2)], 1), function("f", [("Pass", 4)], 3)])
        self.assertEqual(len([constant for constant in code.constants if isinstance(constant, Code)]), 2)
        made = ("Lambda", ([], [], None, [], [], None), constant(1))
        code = compiled([expr(("Tuple", [made, made]))])
        codes = [constant for constant in code.constants if isinstance(constant, Code)]
        self.assertEqual(len(codes), 2)
        self.assertEqual(codes[0], codes[1])


class TimeTests(unittest.TestCase):
    def test_few_calls_for_each_statement(self):
        def calls(times):
            tree = many_small_nodes(times)
            found = []
            sys.setprofile(lambda frame, event, _: found.append(event) if event in ("call", "c_call") else None)
            try:
                compiled(tree)
            finally:
                sys.setprofile(None)
            return len(found)
        many = calls(24)
        self.assertLess(many, 24 * 2600)
        self.assertLess(many, 4.4 * calls(6))


if __name__ == "__main__":
    unittest.main()
