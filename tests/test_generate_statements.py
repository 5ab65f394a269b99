"""The rows of statements, and of what leaves them."""

import unittest

from tests.rows import body_of, rows_of
from tests.samples import (
    NOTHING, assign, class_of, constant, expr, function, name, part, slot,
)

A, B, C, D = name("a"), name("b"), name("c"), name("d")
ONE = constant(1)


class StatementTests(unittest.TestCase):
    def rows(self, tree, text):
        self.maxDiff = None
        self.assertEqual(body_of(tree), rows_of(text))

    def within(self, body, text):
        """The rows of the body of a function, whose names a, b, c, d are globals."""
        self.maxDiff = None
        for letter in "abcd":
            text = text.replace(f"LOAD {letter}", f"LOAD_GLOBAL ('{letter}', False)")
        self.assertEqual(body_of([function("f", body)], 1), rows_of(text))


class SimpleTests(StatementTests):
    def test_expressions_and_nothing(self):
        self.rows([expr(A), expr(ONE, 2), ("Pass", 4), ("Global", 5, ["x", "y"])], """
            LOAD_NAME a; POP_TOP; 2: NOP; 4: NOP; 5: NOP""")
        tree = [function("f", [assign(A, ONE, 2), function("g", [("Nonlocal", 4, ["a"])], 3)])]
        self.assertEqual(body_of(tree, 2), rows_of("4: NOP"))

    def test_in_place(self):
        for op in ("+", "-", "*", "//", "mod", "**", "<<", ">>", "&", "|", "^"):
            self.rows([("AugAssign", 1, A, op, B)], f"LOAD_NAME a; LOAD_NAME b; BINARY_OP {op}=; STORE_NAME a")
            self.rows([("AugAssign", 1, ("Attribute", A, "x"), op, B)], f"""
                LOAD_NAME a; COPY 1; LOAD_ATTR ('x', False); LOAD_NAME b; BINARY_OP {op}=; SWAP 2; STORE_ATTR x""")
            self.rows([("AugAssign", 1, slot(A, B), op, C)], f"""
                LOAD_NAME a; LOAD_NAME b; COPY 2; COPY 2; BINARY_SUBSCR; LOAD_NAME c; BINARY_OP {op}=
                SWAP 3; SWAP 2; STORE_SUBSCR""")
            self.rows([("AugAssign", 1, slot(A, part(None, B)), op, C)], f"""
                LOAD_NAME a; LOAD_CONST None; LOAD_NAME b; COPY 3; COPY 3; COPY 3; BINARY_SLICE; LOAD_NAME c
                BINARY_OP {op}=; SWAP 4; SWAP 3; SWAP 2; STORE_SLICE""")

    def test_delete(self):
        self.rows([("Delete", 1, [A, ("Attribute", B, "x"), slot(C, ("Tuple", [A, ONE]))])], """
            DELETE_NAME a; LOAD_NAME b; DELETE_ATTR x; LOAD_NAME c; LOAD_NAME a; LOAD_CONST 1; BUILD_TUPLE 2
            DELETE_SUBSCR""")

    def test_raise(self):
        self.rows([("Raise", 1, None, None)], "RAISE_VARARGS 0")
        self.rows([("Raise", 1, A, None)], "LOAD_NAME a; RAISE_VARARGS 1")
        self.rows([("Raise", 1, A, B)], "LOAD_NAME a; LOAD_NAME b; RAISE_VARARGS 2")

    def test_assert(self):
        self.rows([("Assert", 1, A, None)], """
            LOAD_NAME a; TO_BOOL; POP_JUMP_IF_TRUE 0; LOAD_ASSERTION_ERROR; RAISE_VARARGS 1; LABEL 0""")
        self.rows([("Assert", 1, A, B)], """
            LOAD_NAME a; TO_BOOL; POP_JUMP_IF_TRUE 0; LOAD_ASSERTION_ERROR; LOAD_NAME b; CALL 0; RAISE_VARARGS 1
            LABEL 0""")

    def test_functions(self):
        self.rows([function("f", [("Pass", 2)])], "LOAD_CODE 1; MAKE_FUNCTION; STORE_NAME f")
        taken = (["p", "q"], [A], None, ["r"], [B], None)
        self.rows([function("f", [("Pass", 9)], 3, taken, [C, ("Attribute", D, "x")])], """
            3: LOAD_NAME c; LOAD_NAME d; LOAD_ATTR ('x', False)
            LOAD_NAME a; BUILD_TUPLE 1; LOAD_NAME b; LOAD_CONST ('r',); BUILD_CONST_KEY_MAP 1
            LOAD_CODE 1; MAKE_FUNCTION; SET_FUNCTION_ATTRIBUTE 2; SET_FUNCTION_ATTRIBUTE 1; CALL 0; CALL 0
            STORE_NAME f""")

    def test_classes(self):
        self.rows([class_of("K", [("Pass", 2)])], """
            LOAD_BUILD_CLASS; PUSH_NULL; LOAD_CODE 1; MAKE_FUNCTION; LOAD_CONST K; CALL 2; STORE_NAME K""")
        self.rows([class_of("K", [("Pass", 2)], 1, [A, B], [C])], """
            LOAD_NAME c; LOAD_BUILD_CLASS; PUSH_NULL; LOAD_CODE 1; MAKE_FUNCTION; LOAD_CONST K; LOAD_NAME a; LOAD_NAME b
            CALL 4; CALL 0; STORE_NAME K""")

    def test_closures(self):
        inner = function("g", [expr(B, 4), expr(A, 5)], 3, (["p"], [ONE], None, [], [], None))
        tree = [function("f", [inner, class_of("K", [expr(B, 8)], 7)], 1, (["b", "a"], [], None, [], [], None))]
        self.assertEqual(body_of(tree, 1), rows_of("""
            3: LOAD_CONST (1,); LOAD_CLOSURE a; LOAD_CLOSURE b; BUILD_TUPLE 2; LOAD_CODE 2; MAKE_FUNCTION
            SET_FUNCTION_ATTRIBUTE 8; SET_FUNCTION_ATTRIBUTE 1; STORE_FAST g
            7: LOAD_BUILD_CLASS; PUSH_NULL; LOAD_CLOSURE b; BUILD_TUPLE 1; LOAD_CODE 3; MAKE_FUNCTION
            SET_FUNCTION_ATTRIBUTE 8; LOAD_CONST K; CALL 2; STORE_FAST K"""))


class BranchTests(StatementTests):
    def test_if(self):
        self.rows([("If", 1, A, [("Pass", 2)], [])], "LOAD_NAME a; TO_BOOL; POP_JUMP_IF_FALSE 0; 2: NOP; LABEL 0")
        self.rows([("If", 1, A, [("Pass", 2)], [("Pass", 3)])], """
            LOAD_NAME a; TO_BOOL; POP_JUMP_IF_FALSE 1; 2: NOP; !JUMP 0; LABEL 1; 3: NOP; LABEL 0""")
        self.rows([("If", 1, A, [("Pass", 2)], [("If", 3, B, [("Pass", 4)], [("Pass", 5)])])], """
            LOAD_NAME a; TO_BOOL; POP_JUMP_IF_FALSE 1; 2: NOP; !JUMP 0; LABEL 1
            3: LOAD_NAME b; TO_BOOL; POP_JUMP_IF_FALSE 3; 4: NOP; !JUMP 2; LABEL 3; 5: NOP; LABEL 2; LABEL 0""")

    def test_while(self):
        self.rows([("While", 1, A, [("Pass", 2)], [("Pass", 3)])], """
            LABEL 0; LOAD_NAME a; TO_BOOL; POP_JUMP_IF_FALSE 2; LABEL 1; 2: NOP
            1: LOAD_NAME a; TO_BOOL; POP_JUMP_IF_TRUE 1; LABEL 2; 3: NOP; LABEL 3""")
        self.rows([("While", 1, ("BoolOp", "or", [A, B]), [("Break", 2), ("Continue", 3)], [])], """
            LABEL 0; LOAD_NAME a; TO_BOOL; POP_JUMP_IF_TRUE 4; LOAD_NAME b; TO_BOOL; POP_JUMP_IF_FALSE 2; LABEL 4
            LABEL 1
            2: NOP; JUMP 3; 3: NOP; JUMP 0
            1: LOAD_NAME a; TO_BOOL; POP_JUMP_IF_TRUE 1; LOAD_NAME b; TO_BOOL; POP_JUMP_IF_TRUE 1; LABEL 2; LABEL 3""")

    def test_a_scope_in_the_test_of_a_while(self):
        rows = body_of([("While", 1, ("Lambda", NOTHING, A), [("Pass", 2)], [])])
        self.assertEqual([row for row in rows if row[0] == "LOAD_CODE"], [("LOAD_CODE", 1, 1)] * 2)

    def test_for(self):
        self.rows([("For", 1, A, B, [("Break", 2), ("Continue", 3)], [("Pass", 4)])], """
            LOAD_NAME b; GET_ITER; LABEL 0; FOR_ITER 1; STORE_NAME a; 2: NOP; POP_TOP; JUMP 2; 3: NOP; JUMP 0
            !JUMP 0; LABEL 1; !END_FOR; !POP_TOP; 4: NOP; LABEL 2""")

    def test_loops_in_loops(self):
        inner = ("For", 2, B, C, [("Break", 3)], [("Break", 4)])
        self.rows([("While", 1, A, [inner, ("Continue", 5)], [])], """
            LABEL 0; LOAD_NAME a; TO_BOOL; POP_JUMP_IF_FALSE 2; LABEL 1
            2: LOAD_NAME c; GET_ITER; LABEL 4; FOR_ITER 5; STORE_NAME b; 3: NOP; POP_TOP; JUMP 6
            !JUMP 4; LABEL 5; !END_FOR; !POP_TOP; 4: NOP; JUMP 3; LABEL 6; 5: NOP; JUMP 0
            1: LOAD_NAME a; TO_BOOL; POP_JUMP_IF_TRUE 1; LABEL 2; LABEL 3""")


class TryTests(StatementTests):
    def test_handlers(self):
        handlers = [(3, A, None, [("Pass", 4)]), (5, None, None, [("Pass", 6)])]
        self.rows([("Try", 1, [("Pass", 2)], handlers, [("Pass", 7)], [])], """
            SETUP_FINALLY 0; 2: NOP; !POP_BLOCK; 7: NOP; !JUMP 2; LABEL 0; !SETUP_CLEANUP 1; !PUSH_EXC_INFO
            3: LOAD_NAME a; CHECK_EXC_MATCH; POP_JUMP_IF_FALSE 3; POP_TOP; 4: NOP; !POP_BLOCK; !POP_EXCEPT; !JUMP 2
            LABEL 3; 5: POP_TOP; 6: NOP; !POP_BLOCK; !POP_EXCEPT; !JUMP 2; LABEL 4
            !RERAISE 0; LABEL 1; !COPY 3; !POP_EXCEPT; !RERAISE 1; LABEL 2""")

    def test_a_handler_with_a_name(self):
        self.rows([("Try", 1, [("Pass", 2)], [(3, A, "e", [("Pass", 4)])], [], [])], """
            SETUP_FINALLY 0; 2: NOP; !POP_BLOCK; !JUMP 2; LABEL 0; !SETUP_CLEANUP 1; !PUSH_EXC_INFO
            3: LOAD_NAME a; CHECK_EXC_MATCH; POP_JUMP_IF_FALSE 3; STORE_NAME e; SETUP_CLEANUP 4; 4: NOP
            !POP_BLOCK; !POP_BLOCK; !POP_EXCEPT; !LOAD_CONST None; !STORE_NAME e; !DELETE_NAME e; !JUMP 2
            LABEL 4; !LOAD_CONST None; !STORE_NAME e; !DELETE_NAME e; !RERAISE 1; LABEL 3
            !RERAISE 0; LABEL 1; !COPY 3; !POP_EXCEPT; !RERAISE 1; LABEL 2""")

    def test_labels_of_the_kind_come_ahead_of_that_for_the_name(self):
        rows = body_of([("Try", 1, [("Pass", 2)], [(3, ("IfExp", A, B, C), "e", [("Pass", 4)])], [], [])])
        self.assertEqual([row for row in rows if row[0] == "SETUP_CLEANUP"], [
            ("SETUP_CLEANUP", 1, None), ("SETUP_CLEANUP", 6, 3)])
        self.assertIn(("POP_JUMP_IF_FALSE", 3, 3), rows)

    def test_finalbody(self):
        self.rows([("Try", 1, [("Pass", 2)], [], [], [expr(A, 3)])], """
            SETUP_FINALLY 0; 2: NOP; !POP_BLOCK; 3: LOAD_NAME a; POP_TOP; !JUMP 2
            LABEL 0; !SETUP_CLEANUP 1; !PUSH_EXC_INFO; 3: LOAD_NAME a; POP_TOP; !RERAISE 0
            LABEL 1; !COPY 3; !POP_EXCEPT; !RERAISE 1; LABEL 2""")

    def test_handlers_and_finalbody(self):
        self.rows([("Try", 1, [("Pass", 2)], [(3, None, None, [("Pass", 4)])], [("Pass", 5)], [("Pass", 6)])], """
            SETUP_FINALLY 0; SETUP_FINALLY 3; 2: NOP; !POP_BLOCK; 5: NOP; !JUMP 5; LABEL 3; !SETUP_CLEANUP 4
            !PUSH_EXC_INFO
            3: POP_TOP; 4: NOP; !POP_BLOCK; !POP_EXCEPT; !JUMP 5; LABEL 6
            !RERAISE 0; LABEL 4; !COPY 3; !POP_EXCEPT; !RERAISE 1; LABEL 5
            !POP_BLOCK; 6: NOP; !JUMP 2; LABEL 0; !SETUP_CLEANUP 1; !PUSH_EXC_INFO; 6: NOP; !RERAISE 0
            LABEL 1; !COPY 3; !POP_EXCEPT; !RERAISE 1; LABEL 2""")

    def test_labels_in_a_finalbody_are_new_each_time(self):
        body = [("If", 3, A, [("Pass", 4)], [])]
        self.rows([("Try", 1, [("Pass", 2)], [], [], body)], """
            SETUP_FINALLY 0; 2: NOP; !POP_BLOCK; 3: LOAD_NAME a; TO_BOOL; POP_JUMP_IF_FALSE 3; 4: NOP; LABEL 3; !JUMP 2
            LABEL 0; !SETUP_CLEANUP 1; !PUSH_EXC_INFO; 3: LOAD_NAME a; TO_BOOL; POP_JUMP_IF_FALSE 4; 4: NOP; LABEL 4
            !RERAISE 0; LABEL 1; !COPY 3; !POP_EXCEPT; !RERAISE 1; LABEL 2""")


class WithTests(StatementTests):
    def test_one_item(self):
        for target, row in ((None, "POP_TOP"), (B, "STORE_NAME b")):
            self.rows([("With", 1, [(A, target)], [("Pass", 2)])], f"""
                LOAD_NAME a; BEFORE_WITH; SETUP_WITH 0; {row}; 2: NOP
                1: !POP_BLOCK; LOAD_CONST None; LOAD_CONST None; LOAD_CONST None; CALL 2; POP_TOP; !JUMP 2
                LABEL 0; SETUP_CLEANUP 1; PUSH_EXC_INFO; WITH_EXCEPT_START; TO_BOOL; POP_JUMP_IF_TRUE 3; RERAISE 2
                LABEL 3; POP_TOP; !POP_BLOCK; POP_EXCEPT; POP_TOP; POP_TOP; !JUMP 2
                LABEL 1; !COPY 3; !POP_EXCEPT; !RERAISE 1; LABEL 2""")

    def test_two_items(self):
        def end(failed, cleanup, end, away):
            return f"""
                !POP_BLOCK; LOAD_CONST None; LOAD_CONST None; LOAD_CONST None; CALL 2; POP_TOP; !JUMP {end}
                LABEL {failed}; SETUP_CLEANUP {cleanup}; PUSH_EXC_INFO; WITH_EXCEPT_START; TO_BOOL
                POP_JUMP_IF_TRUE {away}; RERAISE 2; LABEL {away}; POP_TOP; !POP_BLOCK; POP_EXCEPT; POP_TOP; POP_TOP
                !JUMP {end}; LABEL {cleanup}; !COPY 3; !POP_EXCEPT; !RERAISE 1; LABEL {end}"""
        self.rows([("With", 1, [(A, None), (B, C)], [("Pass", 2)])], f"""
            LOAD_NAME a; BEFORE_WITH; SETUP_WITH 0; POP_TOP; LOAD_NAME b; BEFORE_WITH; SETUP_WITH 4; STORE_NAME c
            2: NOP
            1: {end(4, 5, 6, 7).strip()}; {end(0, 1, 2, 3)}""")


# What leaves a With, when a value on top is kept or not.
EXIT = "LOAD_CONST None; LOAD_CONST None; LOAD_CONST None; CALL 2; POP_TOP"
# The end of a Try with a finalbody behind its first exception, for its labels.
BEHIND = "!RERAISE 0; LABEL 1; !COPY 3; !POP_EXCEPT; !RERAISE 1; LABEL 2"


class LeavingTests(StatementTests):
    """Return, Break and Continue out of each thing that may be open."""

    def head(self, body, text):
        """The first rows of the body of a function."""
        self.maxDiff = None
        for letter in "abcd":
            text = text.replace(f"LOAD {letter}", f"LOAD_GLOBAL ('{letter}', False)")
        due = rows_of(text)
        self.assertEqual(body_of([function("f", body)], 1)[:len(due)], due)

    def test_nothing_open(self):
        self.within([("Return", 2, A)], "2: LOAD a; RETURN_VALUE")
        self.within([("Return", 2, None)], "2: NOP; LOAD_CONST None; RETURN_VALUE")
        self.within([("Return", 2, ONE)], "2: NOP; LOAD_CONST 1; RETURN_VALUE")

    def test_loops(self):
        self.head([("While", 2, A, [("Return", 3, B)], [])], """
            2: LABEL 0; LOAD a; TO_BOOL; POP_JUMP_IF_FALSE 2; LABEL 1; 3: LOAD b; RETURN_VALUE; 2: LOAD a""")
        self.head([("For", 2, ("Attribute", A, "x"), A, [("Return", 3, B)], [])], """
            2: LOAD a; GET_ITER; LABEL 0; FOR_ITER 1; LOAD a; STORE_ATTR x; 3: LOAD b; SWAP 2; POP_TOP; RETURN_VALUE""")
        self.head([("For", 2, ("Attribute", A, "x"), A, [("Return", 3, None)], [])], """
            2: LOAD a; GET_ITER; LABEL 0; FOR_ITER 1; LOAD a; STORE_ATTR x; 3: NOP; POP_TOP; LOAD_CONST None
            RETURN_VALUE""")

    def test_under_handlers(self):
        self.head([("Try", 2, [("Return", 3, A)], [(4, None, None, [("Pass", 5)])], [], [])], """
            2: SETUP_FINALLY 0; 3: LOAD a; POP_BLOCK; RETURN_VALUE; !POP_BLOCK""")
        self.head([("Try", 2, [("Return", 3, ONE)], [(4, None, None, [("Pass", 5)])], [], [])], """
            2: SETUP_FINALLY 0; 3: NOP; POP_BLOCK; LOAD_CONST 1; RETURN_VALUE; !POP_BLOCK""")

    def test_the_orelse_of_a_try_is_not_under_its_handlers(self):
        self.head([("Try", 2, [("Pass", 3)], [(4, None, None, [("Pass", 5)])], [("Return", 6, A)], [])], """
            2: SETUP_FINALLY 0; 3: NOP; !POP_BLOCK; 6: LOAD a; RETURN_VALUE; !JUMP 2""")

    def test_a_handler(self):
        begin = """2: SETUP_FINALLY 0; 3: NOP; !POP_BLOCK; !JUMP 2; LABEL 0; !SETUP_CLEANUP 1; !PUSH_EXC_INFO
            4: POP_TOP; """
        self.head([("Try", 2, [("Pass", 3)], [(4, None, None, [("Return", 5, A)])], [], [])], begin + """
            5: LOAD a; SWAP 2; POP_BLOCK; POP_EXCEPT; RETURN_VALUE; !POP_BLOCK""")
        self.head([("Try", 2, [("Pass", 3)], [(4, None, None, [("Return", 5, None)])], [], [])], begin + """
            5: NOP; POP_BLOCK; POP_EXCEPT; LOAD_CONST None; RETURN_VALUE; !POP_BLOCK""")

    def test_a_handler_with_a_name(self):
        begin = """2: SETUP_FINALLY 0; 3: NOP; !POP_BLOCK; !JUMP 2; LABEL 0; !SETUP_CLEANUP 1; !PUSH_EXC_INFO
            4: LOAD a; CHECK_EXC_MATCH; POP_JUMP_IF_FALSE 3; STORE_FAST e; SETUP_CLEANUP 4; """
        self.head([("Try", 2, [("Pass", 3)], [(4, A, "e", [("Return", 5, B)])], [], [])], begin + """
            5: LOAD b; POP_BLOCK; SWAP 2; POP_BLOCK; POP_EXCEPT; LOAD_CONST None; STORE_FAST e; DELETE_FAST e
            RETURN_VALUE; !POP_BLOCK""")
        self.head([("Try", 2, [("Pass", 3)], [(4, A, "e", [("Return", 5, None)])], [], [])], begin + """
            5: NOP; POP_BLOCK; POP_BLOCK; POP_EXCEPT; LOAD_CONST None; STORE_FAST e; DELETE_FAST e
            LOAD_CONST None; RETURN_VALUE; !POP_BLOCK""")

    def test_a_finalbody(self):
        self.within([("Try", 2, [("Return", 3, A)], [], [], [expr(B, 4)])], f"""
            2: SETUP_FINALLY 0; 3: LOAD a; POP_BLOCK; 4: LOAD b; POP_TOP; !RETURN_VALUE; !POP_BLOCK; LOAD b; POP_TOP
            !JUMP 2
            LABEL 0; !SETUP_CLEANUP 1; !PUSH_EXC_INFO; LOAD b; POP_TOP; {BEHIND}""")
        self.head([("Try", 2, [("Return", 3, ONE)], [], [], [expr(B, 4)])], """
            2: SETUP_FINALLY 0; 3: NOP; POP_BLOCK; 4: LOAD b; POP_TOP; !LOAD_CONST 1; !RETURN_VALUE; !POP_BLOCK""")

    def test_orelse_and_handlers_are_under_the_finalbody(self):
        tree = [("Try", 2, [("Pass", 3)], [(4, None, None, [("Return", 5, A)])], [("Return", 6, None)], [("Pass", 7)])]
        self.head(tree, """
            2: SETUP_FINALLY 0; SETUP_FINALLY 3; 3: NOP; !POP_BLOCK
            6: NOP; POP_BLOCK; 7: NOP; !LOAD_CONST None; !RETURN_VALUE; !JUMP 5
            LABEL 3; !SETUP_CLEANUP 4; !PUSH_EXC_INFO; 4: POP_TOP
            5: LOAD a; SWAP 2; POP_BLOCK; POP_EXCEPT; POP_BLOCK; 7: NOP; !RETURN_VALUE; !POP_BLOCK""")

    def test_a_finalbody_behind_an_exception(self):
        loop = ("For", 2, ("Attribute", D, "x"), C, [("Try", 3, [("Pass", 4)], [], [], [("Break", 5)])], [])
        self.within([loop], """
            2: LOAD c; GET_ITER; LABEL 0; FOR_ITER 1; LOAD d; STORE_ATTR x; 3: SETUP_FINALLY 3; 4: NOP; !POP_BLOCK
            5: NOP; POP_TOP; JUMP 2; !JUMP 5; LABEL 3; !SETUP_CLEANUP 4; !PUSH_EXC_INFO
            5: NOP; POP_TOP; POP_BLOCK; POP_EXCEPT; POP_TOP; JUMP 2
            !RERAISE 0; LABEL 4; !COPY 3; !POP_EXCEPT; !RERAISE 1; LABEL 5
            !JUMP 0; LABEL 1; !END_FOR; !POP_TOP; LABEL 2""")
        self.within([("Try", 2, [("Pass", 3)], [], [], [("Return", 4, A)])], f"""
            2: SETUP_FINALLY 0; 3: NOP; !POP_BLOCK; 4: LOAD a; RETURN_VALUE; !JUMP 2
            LABEL 0; !SETUP_CLEANUP 1; !PUSH_EXC_INFO
            4: LOAD a; SWAP 2; POP_TOP; SWAP 2; POP_BLOCK; POP_EXCEPT; RETURN_VALUE; {BEHIND}""")

    def test_a_finalbody_that_leaves_with_a_value_kept(self):
        self.head([("Try", 2, [("Return", 3, A)], [], [], [("Return", 4, B)])], """
            2: SETUP_FINALLY 0; 3: LOAD a; POP_BLOCK; 4: LOAD b; SWAP 2; POP_TOP; RETURN_VALUE; !RETURN_VALUE
            !POP_BLOCK
            LOAD b; RETURN_VALUE""")
        self.head([("Try", 2, [("Return", 3, A)], [], [], [("Return", 4, None)])], """
            2: SETUP_FINALLY 0; 3: LOAD a; POP_BLOCK; 4: NOP; POP_TOP; LOAD_CONST None; RETURN_VALUE; !RETURN_VALUE""")
        self.head([("Try", 2, [("Return", 3, None)], [], [], [("Return", 4, B)])], """
            2: SETUP_FINALLY 0; 3: NOP; POP_BLOCK; 4: LOAD b; RETURN_VALUE; !LOAD_CONST None; !RETURN_VALUE""")
        loop = ("While", 2, A, [("Try", 3, [("Return", 4, B)], [], [], [("Continue", 5)])], [])
        self.head([loop], """
            2: LABEL 0; LOAD a; TO_BOOL; POP_JUMP_IF_FALSE 2; LABEL 1
            3: SETUP_FINALLY 4; 4: LOAD b; POP_BLOCK; 5: NOP; POP_TOP; JUMP 0; !RETURN_VALUE; !POP_BLOCK""")

    def test_break_and_continue_out_of_a_finalbody_s_try(self):
        for word, last in (("Break", "POP_TOP; !JUMP 2"), ("Continue", "!JUMP 0")):
            tree = [("For", 2, ("Attribute", D, "x"), C, [("Try", 3, [(word, 4)], [], [], [expr(A, 5)])], [])]
            last = last.replace("POP_TOP", "!POP_TOP")
            self.head(tree, f"""
                2: LOAD c; GET_ITER; LABEL 0; FOR_ITER 1; LOAD d; STORE_ATTR x; 3: SETUP_FINALLY 3
                4: NOP; POP_BLOCK; 5: LOAD a; POP_TOP; {last}; !POP_BLOCK""")

    def test_a_loop_inside_of_a_finalbody(self):
        body = [("While", 4, B, [("Break", 5)], [])]
        self.head([("Try", 2, [("Return", 3, A)], [], [], body)], """
            2: SETUP_FINALLY 0; 3: LOAD a; POP_BLOCK
            LABEL 3; 4: LOAD b; TO_BOOL; POP_JUMP_IF_FALSE 5; LABEL 4; 5: NOP; JUMP 6
            4: LOAD b; TO_BOOL; POP_JUMP_IF_TRUE 4; LABEL 5; LABEL 6; !RETURN_VALUE; !POP_BLOCK""")

    def test_finalbodies_in_one_another(self):
        inner = ("Try", 3, [("Try", 4, [("Return", 5, A)], [], [], [("Pass", 6)])], [], [], [("Pass", 7)])
        self.head([("Try", 2, [inner], [], [], [("Pass", 8)])], """
            2: SETUP_FINALLY 0; 3: SETUP_FINALLY 3; 4: SETUP_FINALLY 6; 5: LOAD a; POP_BLOCK; 6: NOP
            !POP_BLOCK; 7: NOP; !POP_BLOCK; 8: NOP; !RETURN_VALUE; !POP_BLOCK""")

    def test_a_try_inside_of_a_finalbody(self):
        last = [("Try", 4, [("Return", 5, B)], [], [], [("Return", 6, C)])]
        self.head([("Try", 2, [("Return", 3, A)], [], [], last)], """
            2: SETUP_FINALLY 0; 3: LOAD a; POP_BLOCK
            4: SETUP_FINALLY 3; 5: LOAD b; POP_BLOCK; 6: LOAD c; SWAP 2; POP_TOP; SWAP 2; POP_TOP; RETURN_VALUE
            !SWAP 2; !POP_TOP; !RETURN_VALUE; !POP_BLOCK; 6: LOAD c; SWAP 2; POP_TOP; RETURN_VALUE; !JUMP 5
            LABEL 3; !SETUP_CLEANUP 4; !PUSH_EXC_INFO
            6: LOAD c; SWAP 2; POP_TOP; SWAP 2; POP_BLOCK; POP_EXCEPT; SWAP 2; POP_TOP; RETURN_VALUE
            !RERAISE 0; LABEL 4; !COPY 3; !POP_EXCEPT; !RERAISE 1; LABEL 5; !RETURN_VALUE; !POP_BLOCK""")

    def test_a_with(self):
        self.head([("With", 2, [(A, None)], [("Return", 3, B)])], f"""
            2: LOAD a; BEFORE_WITH; SETUP_WITH 0; POP_TOP; 3: LOAD b; 2: POP_BLOCK; SWAP 2; {EXIT}; !RETURN_VALUE
            !POP_BLOCK""")
        self.head([("With", 2, [(A, None)], [("Return", 3, None)])], f"""
            2: LOAD a; BEFORE_WITH; SETUP_WITH 0; POP_TOP; 3: NOP; 2: POP_BLOCK; {EXIT}; !LOAD_CONST None; !RETURN_VALUE
            !POP_BLOCK""")

    def test_a_with_of_two_items(self):
        self.head([("With", 2, [(A, None), (B, None)], [("Return", 3, C)])], f"""
            2: LOAD a; BEFORE_WITH; SETUP_WITH 0; POP_TOP; LOAD b; BEFORE_WITH; SETUP_WITH 4; POP_TOP
            3: LOAD c; 2: POP_BLOCK; SWAP 2; {EXIT}; POP_BLOCK; SWAP 2; {EXIT}; !RETURN_VALUE; !POP_BLOCK""")

    def test_break_out_of_a_with(self):
        tree = [("For", 2, ("Attribute", D, "x"), C, [("With", 3, [(A, None)], [("Break", 4)])], [])]
        self.head(tree, f"""
            2: LOAD c; GET_ITER; LABEL 0; FOR_ITER 1; LOAD d; STORE_ATTR x
            3: LOAD a; BEFORE_WITH; SETUP_WITH 3; POP_TOP; 4: NOP; 3: POP_BLOCK; {EXIT}; !POP_TOP; !JUMP 2
            !POP_BLOCK""")

    def test_a_with_behind_a_finalbody_has_its_line(self):
        tree = [("With", 2, [(A, None)], [("Try", 3, [("Return", 4, B)], [], [], [("Pass", 5)])])]
        self.head(tree, f"""
            2: LOAD a; BEFORE_WITH; SETUP_WITH 0; POP_TOP; 3: SETUP_FINALLY 4
            4: LOAD b; POP_BLOCK; 5: NOP; 2: POP_BLOCK; SWAP 2; {EXIT}; !RETURN_VALUE; !POP_BLOCK""")

    def test_a_finalbody_behind_a_with(self):
        tree = [("Try", 2, [("With", 3, [(A, None)], [("Return", 4, B)])], [], [], [("Return", 5, C)])]
        self.head(tree, f"""
            2: SETUP_FINALLY 0; 3: LOAD a; BEFORE_WITH; SETUP_WITH 3; POP_TOP; 4: LOAD b; 3: POP_BLOCK; SWAP 2; {EXIT}
            !POP_BLOCK; 5: LOAD c; SWAP 2; POP_TOP; RETURN_VALUE; !RETURN_VALUE""")

    def test_many_things_at_once(self):
        inner = ("Try", 4, [("Pass", 5)], [(6, A, "e", [("Return", 7, B)])], [], [])
        tree = [("For", 2, ("Attribute", D, "x"), C, [("With", 3, [(A, None)], [inner])], [])]
        self.head(tree, f"""
            2: LOAD c; GET_ITER; LABEL 0; FOR_ITER 1; LOAD d; STORE_ATTR x
            3: LOAD a; BEFORE_WITH; SETUP_WITH 3; POP_TOP; 4: SETUP_FINALLY 7; 5: NOP; !POP_BLOCK; !JUMP 9
            LABEL 7; !SETUP_CLEANUP 8; !PUSH_EXC_INFO
            6: LOAD a; CHECK_EXC_MATCH; POP_JUMP_IF_FALSE 10; STORE_FAST e; SETUP_CLEANUP 11
            7: LOAD b; POP_BLOCK; SWAP 2; POP_BLOCK; POP_EXCEPT; LOAD_CONST None; STORE_FAST e; DELETE_FAST e
            3: POP_BLOCK; SWAP 2; {EXIT}; !SWAP 2; !POP_TOP; !RETURN_VALUE; !POP_BLOCK""")

    def test_lines_behind_what_has_left(self):
        self.rows([("While", 1, A, [("Try", 2, [("Break", 3)], [], [], [("Pass", 4)]), ("Pass", 5)], [])], """
            LABEL 0; LOAD_NAME a; TO_BOOL; POP_JUMP_IF_FALSE 2; LABEL 1
            2: SETUP_FINALLY 4; 3: NOP; POP_BLOCK; 4: NOP; !JUMP 3; !POP_BLOCK; 4: NOP; !JUMP 6
            LABEL 4; !SETUP_CLEANUP 5; !PUSH_EXC_INFO; 4: NOP; !RERAISE 0
            LABEL 5; !COPY 3; !POP_EXCEPT; !RERAISE 1; LABEL 6; 5: NOP
            1: LOAD_NAME a; TO_BOOL; POP_JUMP_IF_TRUE 1; LABEL 2; LABEL 3""")


if __name__ == "__main__":
    unittest.main()
