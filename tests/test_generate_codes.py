"""What codes begin and end with, comprehensions, and whole programs."""

import copy
import unittest

from codewalk.errors import NoProgram, NoTree
from codewalk.generate import generated
from codewalk.scopes import scopes
from tests import flow_by_the_book
from tests.programs import Maker
from tests.rows import rows_of
from tests.samples import (
    NOTHING, assign, class_of, clause, constant, expr, function, name, nested, numbers, showcase, slot, starred,
    with_tuples,
)

A, B, C, D = name("a"), name("b"), name("c"), name("d")
ONE = constant(1)
TAKEN = (["q", "p"], [], "r", ["t", "s"], [None, None], "u")


class CodeTests(unittest.TestCase):
    def code(self, tree, number, text):
        self.maxDiff = None
        self.assertEqual(generated(tree)[number], rows_of(text))

    def test_the_example(self):
        tree = [assign(name("x"), ("BinOp", constant(2), "+", constant(3)))]
        self.assertEqual(generated(tree), [[
            ("RESUME", 0, None), ("LOAD_CONST", 5, 1), ("STORE_NAME", "x", 1), ("LOAD_CONST", None, None),
            ("RETURN_VALUE", None, None)]])
        self.assertEqual(generated(tree=tree), generated(tree))

    def test_a_program(self):
        self.code([("Pass", 7)], 0, "!RESUME 0; 7: NOP; !LOAD_CONST None; !RETURN_VALUE")

    def test_a_function(self):
        self.code([function("f", [("Pass", 9)], 4)], 1, "4: RESUME 0; 9: NOP; !LOAD_CONST None; !RETURN_VALUE")

    def test_a_lambda(self):
        self.code([expr(("Lambda", NOTHING, ONE), 4)], 1, "4: RESUME 0; LOAD_CONST 1; RETURN_VALUE")

    def test_a_class(self):
        tree = [function("f", [class_of("K", [class_of("L", [("Pass", 9)], 8)], 3)])]
        self.code(tree, 2, """
            3: RESUME 0; LOAD_NAME __name__; STORE_NAME __module__; LOAD_CONST f.<locals>.K; STORE_NAME __qualname__
            8: LOAD_BUILD_CLASS; PUSH_NULL; LOAD_CODE 3; MAKE_FUNCTION; LOAD_CONST L; CALL 2; STORE_NAME L
            !LOAD_CONST None; !RETURN_VALUE""")
        self.assertIn(("LOAD_CONST", "f.<locals>.K.L", 8), generated(tree)[3])

    def test_the_line_of_a_scope_is_that_of_its_statement(self):
        value = ("Lambda", NOTHING, ("ListComp", A, [clause(B)]))
        tree = [("Try", 1, [expr(value, 3)], [(5, value, None, [("Pass", 6)])], [], []),
                function("f", [("Pass", 9)], 8, ([], [], None, ["k"], [value], None), [value])]
        lines = [[row[2] for row in rows if row[0] == "RESUME"] for rows in generated(tree)]
        self.assertEqual(lines, [[None]] + [[3]] * 2 + [[5]] * 2 + [[8]] * 5)

    def test_cells_and_free_names(self):
        inner = function("g", [expr(("Tuple", [name(x) for x in "zpuratsx"]), 5)], 4)
        tree = [function("f", [assign(name("z"), ONE, 2), assign(name("x"), ONE, 3), inner], 1, TAKEN)]
        found = generated(tree)
        self.assertEqual(found[1][:8], rows_of("""
            !MAKE_CELL p; !MAKE_CELL t; !MAKE_CELL s; !MAKE_CELL r; !MAKE_CELL u; !MAKE_CELL x; !MAKE_CELL z
            RESUME 0"""))
        self.assertEqual(found[2][:2], rows_of("4: !COPY_FREE_VARS 7; RESUME 0"))
        self.assertEqual([row[1] for row in found[1] if row[0] == "LOAD_CLOSURE"], list("prstuxz"))

    def test_a_cell_and_a_free_name_at_once(self):
        innermost = function("h", [expr(("Tuple", [A, B]), 6)], 5)
        tree = [function("f", [assign(A, ONE, 2), function("g", [assign(B, ONE, 4), innermost], 3)])]
        self.assertEqual(generated(tree)[2][:3], rows_of("3: !COPY_FREE_VARS 1; !MAKE_CELL b; RESUME 0"))

    def test_generators(self):
        self.code([function("f", [expr(("Yield", A), 3)], 2)], 1, """
            2: RETURN_GENERATOR; POP_TOP; !SETUP_CLEANUP 0; RESUME 0
            3: LOAD_GLOBAL ('a', False); YIELD_VALUE 0; RESUME 1; POP_TOP
            !LOAD_CONST None; !RETURN_VALUE; LABEL 0; !CALL_INTRINSIC_1 3; !RERAISE 1""")
        self.code([expr(("Lambda", NOTHING, ("Yield", None)), 2)], 1, """
            2: RETURN_GENERATOR; POP_TOP; !SETUP_CLEANUP 0; RESUME 0; LOAD_CONST None; YIELD_VALUE 0; RESUME 1
            RETURN_VALUE; LABEL 0; !CALL_INTRINSIC_1 3; !RERAISE 1""")
        self.code([function("f", [("Return", 3, ("YieldFrom", A))], 2, (["a"], [], None, [], [], None))], 1, """
            2: RETURN_GENERATOR; POP_TOP; !SETUP_CLEANUP 0; RESUME 0
            3: LOAD_FAST a; GET_YIELD_FROM_ITER; LOAD_CONST None; LABEL 1; SEND 3; SETUP_FINALLY 2; YIELD_VALUE 1
            POP_BLOCK; RESUME 2; JUMP_NO_INTERRUPT 1; LABEL 2; CLEANUP_THROW; LABEL 3; END_SEND; RETURN_VALUE
            !LOAD_CONST None; !RETURN_VALUE; LABEL 0; !CALL_INTRINSIC_1 3; !RERAISE 1""")

    def test_a_generator_with_cells_and_free_names(self):
        inner = function("g", [expr(("Yield", A), 5), assign(B, ONE, 6), expr(("Lambda", NOTHING, B), 7)], 4)
        found = generated([function("f", [assign(A, ONE, 2), inner])])
        self.assertEqual(found[2][:6], rows_of(
            "4: !COPY_FREE_VARS 1; !MAKE_CELL b; RETURN_GENERATOR; POP_TOP; !SETUP_CLEANUP 0; RESUME 0"))

    def test_a_yield_of_an_inner_scope_makes_no_generator(self):
        inner = function("g", [expr(("Yield", A), 4)], 3)
        tree = [function("f", [expr(("Lambda", NOTHING, ("Yield", None)), 2), inner])]
        self.assertEqual([rows[0][0] for rows in generated(tree)], [
            "RESUME", "RESUME", "RETURN_GENERATOR", "RETURN_GENERATOR"])
        # The value of the first clause, and a default, lie in the scope around.
        tree = [function("f", [expr(("ListComp", A, [clause(A, ("Yield", B))]), 2)])]
        self.assertEqual([rows[0][0] for rows in generated(tree)], ["RESUME", "RETURN_GENERATOR", "RESUME"])


class ComprehensionTests(CodeTests):
    def test_a_list(self):
        tree = [expr(("ListComp", A, [clause(B, C)]), 3)]
        self.code(tree, 0, """
            3: !RESUME 0; LOAD_CODE 1; MAKE_FUNCTION; LOAD_NAME c; GET_ITER; CALL 0; POP_TOP
            !LOAD_CONST None; !RETURN_VALUE""")
        self.code(tree, 1, """
            3: RESUME 0; BUILD_LIST 0; LOAD_FAST '.0'; GET_ITER; LABEL 0; FOR_ITER 2; STORE_FAST b
            LOAD_GLOBAL ('a', False); LIST_APPEND 2; LABEL 1; JUMP 0; LABEL 2; !END_FOR; !POP_TOP; RETURN_VALUE""")

    def test_a_dict(self):
        self.code([expr(("DictComp", B, A, [clause(B, C)]))], 1, """
            RESUME 0; BUILD_MAP 0; LOAD_FAST '.0'; GET_ITER; LABEL 0; FOR_ITER 2; STORE_FAST b
            LOAD_FAST b; LOAD_GLOBAL ('a', False); MAP_ADD 2; LABEL 1; JUMP 0; LABEL 2; !END_FOR; !POP_TOP
            RETURN_VALUE""")

    def test_a_generator(self):
        self.code([expr(("GeneratorExp", B, [clause(B, C)]))], 1, """
            RETURN_GENERATOR; POP_TOP; !SETUP_CLEANUP 0; RESUME 0; LOAD_FAST '.0'; GET_ITER; LABEL 1; FOR_ITER 3
            STORE_FAST b
            LOAD_FAST b; YIELD_VALUE 0; RESUME 1; POP_TOP; LABEL 2; JUMP 1; LABEL 3; !END_FOR; !POP_TOP
            LOAD_CONST None; RETURN_VALUE; LABEL 0; !CALL_INTRINSIC_1 3; !RERAISE 1""")

    def test_several_clauses(self):
        clauses = [clause(("Tuple", [B, starred(D)]), C, B), clause(slot(B, D), B)]
        self.code([expr(("ListComp", B, clauses))], 1, """
            RESUME 0; BUILD_LIST 0; LOAD_FAST '.0'; GET_ITER; LABEL 0; FOR_ITER 2; UNPACK_EX (1, 0); STORE_FAST b
            STORE_FAST d
            LOAD_FAST b; TO_BOOL; POP_JUMP_IF_FALSE 1
            LOAD_FAST b; GET_ITER; LABEL 3; FOR_ITER 5; LOAD_FAST b; LOAD_FAST d; STORE_SUBSCR
            LOAD_FAST b; LIST_APPEND 3
            LABEL 4; JUMP 3; LABEL 5; !END_FOR; !POP_TOP; LABEL 1; JUMP 0; LABEL 2; !END_FOR; !POP_TOP; RETURN_VALUE""")

    def test_up_to_five_clauses(self):
        for word, row in (("ListComp", "LIST_APPEND"), ("DictComp", "MAP_ADD"), ("GeneratorExp", "YIELD_VALUE")):
            for many in range(1, 6):
                clauses = [clause(A, B, *[A] * (at % 3)) for at in range(many)]
                values = (A, A) if word == "DictComp" else (A,)
                found = generated([expr((word, *values, clauses))])[1]
                due = 0 if word == "GeneratorExp" else many + 1
                self.assertEqual([line[1] for line in found if line[0] == row], [due])
                self.assertEqual(len([line for line in found if line[0] == "FOR_ITER"]), many)
                flow_by_the_book.look(found)

    def test_closures_of_comprehensions(self):
        tree = [function("f", [expr(("ListComp", A, [clause(B, A)]), 2)], 1, (["a"], [], None, [], [], None))]
        self.code(tree, 1, """
            !MAKE_CELL a; RESUME 0
            2: LOAD_CLOSURE a; BUILD_TUPLE 1; LOAD_CODE 2; MAKE_FUNCTION; SET_FUNCTION_ATTRIBUTE 8; LOAD_DEREF a
            GET_ITER; CALL 0
            POP_TOP; !LOAD_CONST None; !RETURN_VALUE""")

    def test_comprehensions_in_one_another(self):
        inner = ("GeneratorExp", B, [clause(C, B)])
        tree = [expr(("ListComp", inner, [clause(B, ("ListComp", A, [clause(A)]))]))]
        found = generated(tree)
        self.assertEqual([row[1] for rows in found for row in rows if row[0] == "LOAD_CODE"], [2, 1, 3])
        self.assertEqual(found[2][:2], rows_of("!MAKE_CELL b; RESUME 0"))


class NumberTests(unittest.TestCase):
    """Each code is loaded under the number of its scope, in whatever order the rows are written."""

    def loaded(self, tree, number=0):
        return [row[1] for row in generated(tree)[number] if row[0] == "LOAD_CODE"]

    def test_orders_that_are_unlike(self):
        def mark():
            return ("Lambda", NOTHING, A)
        self.assertEqual(self.loaded([assign(slot(A, mark()), mark())]), [2, 1])
        self.assertEqual(self.loaded([("For", 1, slot(A, mark()), mark(), [("Pass", 2)], [])]), [2, 1])
        self.assertEqual(self.loaded([expr(("Dict", [mark(), mark()], [mark(), mark()]))]), [1, 3, 2, 4])
        taken = (["p"], [mark()], None, ["q"], [mark()], None)
        self.assertEqual(self.loaded([function("f", [("Pass", 2)], 1, taken, [mark()])]), [3, 1, 2, 4])
        self.assertEqual(self.loaded([class_of("K", [("Pass", 2)], 1, [mark()], [mark()])]), [1, 3, 2])
        tree = [expr(("ListComp", mark(), [clause(slot(A, mark()), mark(), mark()), clause(A, mark())]))]
        self.assertEqual(self.loaded(tree), [2, 1])
        self.assertEqual(self.loaded(tree, 2), [3, 4, 5, 6])

    def test_one_node_in_several_places(self):
        value = ("Lambda", NOTHING, A)
        self.assertEqual(self.loaded([expr(("Tuple", [value, value])), expr(value, 2)]), [1, 2, 3])

    def test_a_finalbody_loads_the_same_codes_again(self):
        value = ("Lambda", NOTHING, A)
        tree = [function("f", [("Try", 2, [("Return", 3, B)], [], [], [expr(value, 4)]), expr(value, 5)])]
        self.assertEqual(self.loaded(tree, 1), [2, 2, 2, 3])


class WholeTests(unittest.TestCase):
    def programs(self, many=150):
        pick, found = numbers(61), []
        while len(found) < many:
            tree = Maker(pick, pick.choice((10, 40, 120))).program()
            try:
                found.append((tree, generated(tree)))
            except NoProgram:
                # Some have names that cannot be settled.
                pass
        return found

    def test_as_many_codes_as_scopes(self):
        for tree, found in self.programs():
            self.assertEqual(len(found), len(scopes(tree)))

    def test_labels(self):
        for _, found in self.programs():
            for rows in found:
                labels = [row[1] for row in rows if row[0] == "LABEL"]
                self.assertEqual(sorted(labels), list(range(len(labels))))

    def test_each_code_is_loaded_where_its_scope_lies(self):
        for tree, found in self.programs():
            loaded = {(row[1], at) for at, rows in enumerate(found) for row in rows if row[0] == "LOAD_CODE"}
            self.assertEqual(loaded, {(at, scope[3]) for at, scope in enumerate(scopes(tree)) if at > 0})

    def test_all_ways_to_a_row_agree(self):
        """Whatever way leads to a row, the same handlers are open and as many entries are on the stack."""
        for _, found in self.programs():
            for rows in found:
                flow_by_the_book.look(rows)

    def test_rows_are_tuples_and_lists_are_new(self):
        for tree, found in self.programs(20):
            again = generated(tree)
            self.assertEqual(found, again)
            self.assertIs(type(again), list)
            for rows, others in zip(found, again):
                self.assertIs(type(rows), list)
                self.assertIsNot(rows, others)
                self.assertTrue(all(type(row) is tuple and len(row) == 3 for row in rows))

    def test_nothing_is_changed(self):
        for tree, found in self.programs(20):
            before = copy.deepcopy(tree)
            self.assertEqual(generated(with_tuples(tree)), found)
            self.assertEqual(generated(tree), found)
            self.assertEqual(tree, before)

    def test_lines_are_those_of_statements(self):
        for tree, found in self.programs(40):
            lines = {row[2] for rows in found for row in rows} - {None}
            self.assertLessEqual(lines, {part for part in flat(tree) if isinstance(part, int)})

    def test_deep_and_long_programs(self):
        for tree in (nested(20), nested(60), [("Pass", line) for line in range(1, 401)]):
            flow_by_the_book.look(generated(tree)[0])

    def test_no_tree_ahead_of_all(self):
        for tree in ([], None, 5, [("Return", 1, 5)], [("Break", 1), ("Break", 1)], {}, [showcase()]):
            with self.assertRaises(NoTree):
                generated(tree)


def flat(thing):
    if isinstance(thing, (list, tuple)):
        return [part for inner in thing for part in flat(inner)]
    return [thing]


if __name__ == "__main__":
    unittest.main()
