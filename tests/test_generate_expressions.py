"""The rows of expressions, tests, calls and targets."""

import unittest

from codewalk.generate import generated
from tests.rows import body_of, rows_of
from tests.samples import (
    NOTHING, assign, class_of, clause, constant, every_expression, every_target, expr, function, name, named, part,
    slot, starred, with_tuples,
)

A, B, C, D = name("a"), name("b"), name("c"), name("d")
ONE, TWO = constant(1), constant(2)


def call(value, arguments=(), keywords=()):
    return ("Call", value, list(arguments), list(keywords))


def compare(left, *rest):
    return ("Compare", left, list(rest[0::2]), list(rest[1::2]))


class ExpressionTests(unittest.TestCase):
    def value(self, value, text):
        """The rows of a value that stands alone."""
        self.assertEqual(body_of([expr(value)]), rows_of(text) + [("POP_TOP", None, 1)], value)


class ValueTests(ExpressionTests):
    def test_constants_and_names(self):
        for value in (None, True, 0, -5, "text", ""):
            self.assertEqual(body_of([assign(A, constant(value))]), [
                ("LOAD_CONST", value, 1), ("STORE_NAME", "a", 1)])
        self.value(A, "LOAD_NAME a")

    def test_displays(self):
        self.value(("Tuple", [A, ONE, B]), "LOAD_NAME a; LOAD_CONST 1; LOAD_NAME b; BUILD_TUPLE 3")
        self.value(("List", []), "BUILD_LIST 0")
        self.value(("List", [A]), "LOAD_NAME a; BUILD_LIST 1")
        self.value(("List", [ONE, TWO]), "LOAD_CONST 1; LOAD_CONST 2; BUILD_LIST 2")
        self.value(("List", [ONE, TWO, constant("s")]), "BUILD_LIST 0; LOAD_CONST (1, 2, 's'); LIST_EXTEND 1")
        self.value(("List", [("Tuple", []), ("UnaryOp", "-", ONE), constant(None), TWO]),
                   "BUILD_LIST 0; LOAD_CONST ((), -1, None, 2); LIST_EXTEND 1")
        self.value(("List", [ONE, TWO, A]), "LOAD_CONST 1; LOAD_CONST 2; LOAD_NAME a; BUILD_LIST 3")

    def test_displays_with_starred(self):
        self.value(("List", [starred(A)]), "BUILD_LIST 0; LOAD_NAME a; LIST_EXTEND 1")
        self.value(("Tuple", [starred(A)]), "BUILD_LIST 0; LOAD_NAME a; LIST_EXTEND 1; CALL_INTRINSIC_1 6")
        self.value(("List", [A, ONE, starred(B), C, starred(D), TWO]), """
            LOAD_NAME a; LOAD_CONST 1; BUILD_LIST 2; LOAD_NAME b; LIST_EXTEND 1; LOAD_NAME c; LIST_APPEND 1
            LOAD_NAME d; LIST_EXTEND 1; LOAD_CONST 2; LIST_APPEND 1""")
        self.value(("Tuple", [ONE, TWO, starred(B)]), """
            LOAD_CONST 1; LOAD_CONST 2; BUILD_LIST 2; LOAD_NAME b; LIST_EXTEND 1; CALL_INTRINSIC_1 6""")
        self.value(("List", [ONE, ONE, ONE, starred(B), ONE, ONE, ONE]), """
            LOAD_CONST 1; LOAD_CONST 1; LOAD_CONST 1; BUILD_LIST 3; LOAD_NAME b; LIST_EXTEND 1
            LOAD_CONST 1; LIST_APPEND 1; LOAD_CONST 1; LIST_APPEND 1; LOAD_CONST 1; LIST_APPEND 1""")

    def test_dicts(self):
        self.value(("Dict", [], []), "BUILD_MAP 0")
        self.value(("Dict", [ONE], [A]), "LOAD_CONST 1; LOAD_NAME a; BUILD_MAP 1")
        self.value(("Dict", [ONE, A], [B, C]), "LOAD_CONST 1; LOAD_NAME b; LOAD_NAME a; LOAD_NAME c; BUILD_MAP 2")
        self.value(("Dict", [ONE, ("Tuple", [TWO])], [B, ONE]),
                   "LOAD_NAME b; LOAD_CONST 1; LOAD_CONST (1, (2,)); BUILD_CONST_KEY_MAP 2")

    def test_operators(self):
        for op in ("+", "-", "*", "//", "mod", "**", "<<", ">>", "&", "|", "^"):
            self.value(("BinOp", A, op, B), f"LOAD_NAME a; LOAD_NAME b; BINARY_OP {op}")
        self.value(("UnaryOp", "-", A), "LOAD_NAME a; UNARY_NEGATIVE")
        self.value(("UnaryOp", "~", A), "LOAD_NAME a; UNARY_INVERT")
        self.value(("UnaryOp", "not", A), "LOAD_NAME a; TO_BOOL; UNARY_NOT")

    def test_junctions(self):
        self.value(("BoolOp", "and", [A, B]), """
            LOAD_NAME a; COPY 1; TO_BOOL; POP_JUMP_IF_FALSE 0; POP_TOP; LOAD_NAME b; LABEL 0""")
        self.value(("BoolOp", "or", [A, ("BoolOp", "and", [B, C]), D]), """
            LOAD_NAME a; COPY 1; TO_BOOL; POP_JUMP_IF_TRUE 0; POP_TOP
            LOAD_NAME b; COPY 1; TO_BOOL; POP_JUMP_IF_FALSE 1; POP_TOP; LOAD_NAME c; LABEL 1
            COPY 1; TO_BOOL; POP_JUMP_IF_TRUE 0; POP_TOP; LOAD_NAME d; LABEL 0""")

    def test_comparisons(self):
        for op in ("==", "!=", "<", "<=", ">", ">="):
            self.value(compare(A, op, B), f"LOAD_NAME a; LOAD_NAME b; COMPARE_OP ('{op}', False)")
        for op, row in (("is", "IS_OP 0"), ("is not", "IS_OP 1"), ("in", "CONTAINS_OP 0"), ("not in", "CONTAINS_OP 1")):
            self.value(compare(A, op, B), f"LOAD_NAME a; LOAD_NAME b; {row}")

    def test_chains_of_comparisons(self):
        self.value(compare(A, "<", B, "not in", C, "is", D), """
            LOAD_NAME a
            LOAD_NAME b; SWAP 2; COPY 2; COMPARE_OP ('<', False); COPY 1; TO_BOOL; POP_JUMP_IF_FALSE 0; POP_TOP
            LOAD_NAME c; SWAP 2; COPY 2; CONTAINS_OP 1; COPY 1; TO_BOOL; POP_JUMP_IF_FALSE 0; POP_TOP
            LOAD_NAME d; IS_OP 0; JUMP 1; LABEL 0; SWAP 2; POP_TOP; LABEL 1""")

    def test_choices(self):
        self.value(("IfExp", A, B, C), """
            LOAD_NAME a; TO_BOOL; POP_JUMP_IF_FALSE 1; LOAD_NAME b; JUMP 0; LABEL 1; LOAD_NAME c; LABEL 0""")
        self.value(("IfExp", A, ("IfExp", B, C, D), ONE), """
            LOAD_NAME a; TO_BOOL; POP_JUMP_IF_FALSE 1
            LOAD_NAME b; TO_BOOL; POP_JUMP_IF_FALSE 3; LOAD_NAME c; JUMP 2; LABEL 3; LOAD_NAME d; LABEL 2
            JUMP 0; LABEL 1; LOAD_CONST 1; LABEL 0""")

    def test_attributes_and_subscripts(self):
        self.value(("Attribute", ("Attribute", A, "x"), "y"),
                   "LOAD_NAME a; LOAD_ATTR ('x', False); LOAD_ATTR ('y', False)")
        self.value(slot(A, B), "LOAD_NAME a; LOAD_NAME b; BINARY_SUBSCR")
        self.value(slot(A, part(B, C)), "LOAD_NAME a; LOAD_NAME b; LOAD_NAME c; BINARY_SLICE")
        self.value(slot(A, part(None, C)), "LOAD_NAME a; LOAD_CONST None; LOAD_NAME c; BINARY_SLICE")
        self.value(slot(A, part(None, None)), "LOAD_NAME a; LOAD_CONST None; LOAD_CONST None; BINARY_SLICE")
        self.value(slot(A, part(("UnaryOp", "-", ONE), None)),
                   "LOAD_NAME a; LOAD_CONST -1; LOAD_CONST None; BINARY_SLICE")

    def test_named(self):
        self.value(named("x", B), "LOAD_NAME b; COPY 1; STORE_NAME x")

    def test_yields(self):
        for value, text in (
            (("Yield", None), "LOAD_CONST None; YIELD_VALUE 0; RESUME 1"),
            (("Yield", ONE), "LOAD_CONST 1; YIELD_VALUE 0; RESUME 1"),
            (("YieldFrom", A), """
                LOAD_GLOBAL ('a', False); GET_YIELD_FROM_ITER; LOAD_CONST None
                LABEL 1; SEND 3; SETUP_FINALLY 2; YIELD_VALUE 1; POP_BLOCK; RESUME 2; JUMP_NO_INTERRUPT 1
                LABEL 2; CLEANUP_THROW; LABEL 3; END_SEND"""),
        ):
            found = body_of([function("f", [expr(value, 2)])], 1)
            self.assertEqual(found[:-5], rows_of("2: " + text.strip()) + [("POP_TOP", None, 2)])

    def test_lambdas(self):
        self.value(("Lambda", NOTHING, A), "LOAD_CODE 1; MAKE_FUNCTION")
        full = (["p", "q"], [ONE, A], "r", ["s", "t", "u"], [TWO, None, B], "v")
        self.value(("Lambda", full, A), """
            LOAD_CONST 1; LOAD_NAME a; BUILD_TUPLE 2; LOAD_CONST 2; LOAD_NAME b; LOAD_CONST ('s', 'u')
            BUILD_CONST_KEY_MAP 2; LOAD_CODE 1; MAKE_FUNCTION; SET_FUNCTION_ATTRIBUTE 2; SET_FUNCTION_ATTRIBUTE 1""")
        self.value(("Lambda", (["p"], [ONE], None, [], [], None), A),
                   "LOAD_CONST (1,); LOAD_CODE 1; MAKE_FUNCTION; SET_FUNCTION_ATTRIBUTE 1")
        self.value(("Lambda", ([], [], None, ["p"], [ONE], None), A), """
            LOAD_CONST 1; LOAD_CONST ('p',); BUILD_CONST_KEY_MAP 1; LOAD_CODE 1; MAKE_FUNCTION
            SET_FUNCTION_ATTRIBUTE 2""")
        self.value(("Lambda", ([], [], None, ["p"], [None], None), A), "LOAD_CODE 1; MAKE_FUNCTION")
        self.assertEqual(generated([expr(("Lambda", NOTHING, A), 7)])[1], rows_of(
            "7: RESUME 0; LOAD_GLOBAL ('a', False); RETURN_VALUE"))

    def test_rows_as_lists_and_as_tuples(self):
        for value in every_expression():
            if value[0] not in ("Yield", "YieldFrom"):
                self.assertEqual(generated([expr(value)]), generated(with_tuples([expr(value)])))
            within = [function("f", [expr(value, 2)])]
            self.assertEqual(generated(within), generated(with_tuples(within)))
        for target in every_target():
            self.assertEqual(generated([assign(target)]), generated(with_tuples([assign(target)])))

    def test_expressions_as_parts_of_one_another(self):
        """Each expression is written inside of others as it is alone, but for the numbers of labels."""
        def words(rows):
            return [row[0] for row in rows]
        for value in every_expression():
            alone = words(body_of([function("f", [expr(value, 2)])], 1))
            if ("POP_TOP" not in alone and "NOP" in alone) or value[0] in ("Yield", "YieldFrom", "UnaryOp"):
                continue
            alone = alone[:alone.index("POP_TOP") if value[0] not in ("BoolOp", "Compare") else -1]
            within = words(body_of([function("f", [expr(("Attribute", value, "x"), 2)])], 1))
            self.assertEqual(within[:len(alone)], alone, value)


class TestTests(ExpressionTests):
    """What a jump by the truth of an expression is."""

    def jump(self, value, text):
        """An If has the label 0 behind it, and jumps there if the test is false."""
        rows = body_of([("If", 1, value, [("Pass", 2)], [])])
        self.assertEqual(rows, rows_of(text) + rows_of("2: NOP; LABEL 0"), value)

    def test_not(self):
        self.jump(("UnaryOp", "not", A), "LOAD_NAME a; TO_BOOL; POP_JUMP_IF_TRUE 0")
        self.jump(("UnaryOp", "not", ("UnaryOp", "not", A)), "LOAD_NAME a; TO_BOOL; POP_JUMP_IF_FALSE 0")

    def test_junctions(self):
        self.jump(("BoolOp", "and", [A, B, C]), """
            LOAD_NAME a; TO_BOOL; POP_JUMP_IF_FALSE 0; LOAD_NAME b; TO_BOOL; POP_JUMP_IF_FALSE 0
            LOAD_NAME c; TO_BOOL; POP_JUMP_IF_FALSE 0""")
        self.jump(("BoolOp", "or", [A, B, C]), """
            LOAD_NAME a; TO_BOOL; POP_JUMP_IF_TRUE 1; LOAD_NAME b; TO_BOOL; POP_JUMP_IF_TRUE 1
            LOAD_NAME c; TO_BOOL; POP_JUMP_IF_FALSE 0; LABEL 1""")
        self.jump(("UnaryOp", "not", ("BoolOp", "or", [A, B])), """
            LOAD_NAME a; TO_BOOL; POP_JUMP_IF_TRUE 0; LOAD_NAME b; TO_BOOL; POP_JUMP_IF_TRUE 0""")
        self.jump(("UnaryOp", "not", ("BoolOp", "and", [A, ("UnaryOp", "not", B)])), """
            LOAD_NAME a; TO_BOOL; POP_JUMP_IF_FALSE 1; LOAD_NAME b; TO_BOOL; POP_JUMP_IF_FALSE 0; LABEL 1""")

    def test_junctions_within_one_another(self):
        self.jump(("BoolOp", "or", [("BoolOp", "and", [A, B]), ("BoolOp", "or", [C, D])]), """
            LOAD_NAME a; TO_BOOL; POP_JUMP_IF_FALSE 2; LOAD_NAME b; TO_BOOL; POP_JUMP_IF_TRUE 1; LABEL 2
            LOAD_NAME c; TO_BOOL; POP_JUMP_IF_TRUE 3; LOAD_NAME d; TO_BOOL; POP_JUMP_IF_FALSE 0; LABEL 3; LABEL 1""")

    def test_choices(self):
        self.jump(("IfExp", A, B, ("UnaryOp", "not", C)), """
            LOAD_NAME a; TO_BOOL; POP_JUMP_IF_FALSE 2; LOAD_NAME b; TO_BOOL; POP_JUMP_IF_FALSE 0; JUMP 1
            LABEL 2; LOAD_NAME c; TO_BOOL; POP_JUMP_IF_TRUE 0; LABEL 1""")
        self.jump(("UnaryOp", "not", ("IfExp", A, B, C)), """
            LOAD_NAME a; TO_BOOL; POP_JUMP_IF_FALSE 2; LOAD_NAME b; TO_BOOL; POP_JUMP_IF_TRUE 0; JUMP 1
            LABEL 2; LOAD_NAME c; TO_BOOL; POP_JUMP_IF_TRUE 0; LABEL 1""")

    def test_chains(self):
        self.jump(compare(A, "<", B, ">=", C), """
            LOAD_NAME a; LOAD_NAME b; SWAP 2; COPY 2; COMPARE_OP ('<', False); TO_BOOL; POP_JUMP_IF_FALSE 1
            LOAD_NAME c; COMPARE_OP ('>=', False); TO_BOOL; POP_JUMP_IF_FALSE 0; JUMP 2
            LABEL 1; POP_TOP; JUMP 0; LABEL 2""")
        self.jump(("UnaryOp", "not", compare(A, "<", B, "is not", C)), """
            LOAD_NAME a; LOAD_NAME b; SWAP 2; COPY 2; COMPARE_OP ('<', False); TO_BOOL; POP_JUMP_IF_FALSE 1
            LOAD_NAME c; IS_OP 1; TO_BOOL; POP_JUMP_IF_TRUE 0; JUMP 2; LABEL 1; POP_TOP; LABEL 2""")

    def test_one_comparison(self):
        self.jump(compare(A, "in", B), "LOAD_NAME a; LOAD_NAME b; CONTAINS_OP 0; TO_BOOL; POP_JUMP_IF_FALSE 0")

    def test_in_choices_asserts_and_clauses(self):
        test = ("UnaryOp", "not", ("BoolOp", "or", [A, B]))
        self.value(("IfExp", test, C, D), """
            LOAD_NAME a; TO_BOOL; POP_JUMP_IF_TRUE 1; LOAD_NAME b; TO_BOOL; POP_JUMP_IF_TRUE 1
            LOAD_NAME c; JUMP 0; LABEL 1; LOAD_NAME d; LABEL 0""")
        self.assertEqual(body_of([("Assert", 1, test, None)]), rows_of("""
            LOAD_NAME a; TO_BOOL; POP_JUMP_IF_TRUE 1; LOAD_NAME b; TO_BOOL; POP_JUMP_IF_FALSE 0; LABEL 1
            LOAD_ASSERTION_ERROR; RAISE_VARARGS 1; LABEL 0"""))
        self.assertEqual(generated([expr(("ListComp", C, [clause(D, A, test, A)]))])[1], rows_of("""
            RESUME 0; BUILD_LIST 0; LOAD_FAST '.0'; GET_ITER; LABEL 0; FOR_ITER 2; STORE_FAST d
            LOAD_GLOBAL ('a', False); TO_BOOL; POP_JUMP_IF_TRUE 1; LOAD_GLOBAL ('b', False); TO_BOOL; POP_JUMP_IF_TRUE 1
            LOAD_GLOBAL ('a', False); TO_BOOL; POP_JUMP_IF_FALSE 1
            LOAD_GLOBAL ('c', False); LIST_APPEND 2; LABEL 1; JUMP 0; LABEL 2; !END_FOR; !POP_TOP; RETURN_VALUE"""))


class CallTests(ExpressionTests):
    def test_plain_calls(self):
        self.value(call(A), "LOAD_NAME a; PUSH_NULL; CALL 0")
        self.value(call(A, [B, ONE]), "LOAD_NAME a; PUSH_NULL; LOAD_NAME b; LOAD_CONST 1; CALL 2")
        self.value(call(call(A), [B]), "LOAD_NAME a; PUSH_NULL; CALL 0; PUSH_NULL; LOAD_NAME b; CALL 1")

    def test_methods(self):
        self.value(call(("Attribute", A, "m"), [B]), "LOAD_NAME a; LOAD_ATTR ('m', True); LOAD_NAME b; CALL 1")
        self.value(call(("Attribute", A, "m"), [], [("k", B)]), """
            LOAD_NAME a; LOAD_ATTR ('m', True); LOAD_NAME b; LOAD_CONST ('k',); CALL_KW 1""")

    def test_keywords(self):
        self.value(call(A, [B], [("k", C), ("j", ONE)]), """
            LOAD_NAME a; PUSH_NULL; LOAD_NAME b; LOAD_NAME c; LOAD_CONST 1; LOAD_CONST ('k', 'j'); CALL_KW 3""")

    def test_starred_arguments(self):
        self.value(call(A, [starred(B)]), "LOAD_NAME a; PUSH_NULL; LOAD_NAME b; CALL_FUNCTION_EX 0")
        self.value(call(("Attribute", A, "m"), [starred(B)]), """
            LOAD_NAME a; LOAD_ATTR ('m', False); PUSH_NULL; LOAD_NAME b; CALL_FUNCTION_EX 0""")
        self.value(call(A, [ONE, starred(B), C]), """
            LOAD_NAME a; PUSH_NULL; LOAD_CONST 1; BUILD_LIST 1; LOAD_NAME b; LIST_EXTEND 1; LOAD_NAME c; LIST_APPEND 1
            CALL_INTRINSIC_1 6; CALL_FUNCTION_EX 0""")
        self.value(call(A, [starred(B), starred(C)]), """
            LOAD_NAME a; PUSH_NULL; BUILD_LIST 0; LOAD_NAME b; LIST_EXTEND 1; LOAD_NAME c; LIST_EXTEND 1
            CALL_INTRINSIC_1 6; CALL_FUNCTION_EX 0""")
        self.value(call(A, [starred(ONE)]), "LOAD_NAME a; PUSH_NULL; LOAD_CONST 1; CALL_FUNCTION_EX 0")

    def test_dicts_of_keywords(self):
        self.value(call(A, [], [(None, B)]), """
            LOAD_NAME a; PUSH_NULL; LOAD_CONST (); BUILD_MAP 0; LOAD_NAME b; DICT_MERGE 1; CALL_FUNCTION_EX 1""")
        self.value(call(A, [ONE, TWO], [(None, B), (None, C)]), """
            LOAD_NAME a; PUSH_NULL; LOAD_CONST (1, 2); BUILD_MAP 0; LOAD_NAME b; DICT_MERGE 1; LOAD_NAME c; DICT_MERGE 1
            CALL_FUNCTION_EX 1""")
        self.value(call(A, [C, TWO], [("k", B), (None, D)]), """
            LOAD_NAME a; PUSH_NULL; LOAD_NAME c; LOAD_CONST 2; BUILD_TUPLE 2
            LOAD_CONST k; LOAD_NAME b; BUILD_MAP 1; LOAD_NAME d; DICT_MERGE 1; CALL_FUNCTION_EX 1""")
        self.value(call(A, [starred(C)], [("k", B), ("j", ONE)]), """
            LOAD_NAME a; PUSH_NULL; LOAD_NAME c
            LOAD_NAME b; LOAD_CONST 1; LOAD_CONST ('k', 'j'); BUILD_CONST_KEY_MAP 2; CALL_FUNCTION_EX 1""")

    def test_pieces_of_keywords_in_each_order(self):
        begin = "LOAD_NAME a; PUSH_NULL; LOAD_CONST ();"
        one = "LOAD_CONST {}; LOAD_NAME b; BUILD_MAP 1"
        two = "LOAD_NAME b; LOAD_NAME c; LOAD_CONST ('x', 'y'); BUILD_CONST_KEY_MAP 2"
        rest = "LOAD_NAME d; DICT_MERGE 1"
        self.value(call(A, [], [(None, D), ("x", B), ("y", C)]), f"""
            {begin} BUILD_MAP 0; {rest}; {two}; DICT_MERGE 1; CALL_FUNCTION_EX 1""")
        self.value(call(A, [], [("x", B), ("y", C), (None, D), ("z", B)]), f"""
            {begin} {two}; {rest}; {one.format('z')}; DICT_MERGE 1; CALL_FUNCTION_EX 1""")
        self.value(call(A, [], [("z", B), (None, D), ("x", B), ("y", C), (None, D), ("w", B)]), f"""
            {begin} {one.format('z')}; {rest}; {two}; DICT_MERGE 1; {rest}; {one.format('w')}; DICT_MERGE 1
            CALL_FUNCTION_EX 1""")
        self.value(call(A, [], [(None, D), (None, D), ("z", B)]), f"""
            {begin} BUILD_MAP 0; {rest}; {rest}; {one.format('z')}; DICT_MERGE 1; CALL_FUNCTION_EX 1""")


class TargetTests(unittest.TestCase):
    def target(self, target, text):
        """The rows that store a value, wherever a target stands."""
        rows = rows_of(text)
        self.assertEqual(body_of([assign(target, D)]), [("LOAD_NAME", "d", 1)] + rows, target)
        self.assertEqual(body_of([("For", 1, target, D, [("Pass", 2)], [])])[4:-6], rows, target)
        self.assertEqual(body_of([("With", 1, [(D, target)], [("Pass", 2)])])[3:3 + len(rows)], rows, target)

    def test_names_attributes_and_subscripts(self):
        self.target(A, "STORE_NAME a")
        self.target(("Attribute", A, "x"), "LOAD_NAME a; STORE_ATTR x")
        self.target(slot(A, B), "LOAD_NAME a; LOAD_NAME b; STORE_SUBSCR")
        self.target(slot(A, part(B, None)), "LOAD_NAME a; LOAD_NAME b; LOAD_CONST None; STORE_SLICE")
        self.target(slot(A, part(None, None)), "LOAD_NAME a; LOAD_CONST None; LOAD_CONST None; STORE_SLICE")

    def test_rows_of_targets(self):
        self.target(("Tuple", []), "UNPACK_SEQUENCE 0")
        self.target(("List", [A]), "UNPACK_SEQUENCE 1; STORE_NAME a")
        self.target(("Tuple", [A, ("List", [B, C])]), """
            UNPACK_SEQUENCE 2; STORE_NAME a; UNPACK_SEQUENCE 2; STORE_NAME b; STORE_NAME c""")
        self.target(("Tuple", [starred(A)]), "UNPACK_EX (0, 0); STORE_NAME a")
        self.target(("List", [A, B, starred(("Attribute", A, "x")), C]), """
            UNPACK_EX (2, 1); STORE_NAME a; STORE_NAME b; LOAD_NAME a; STORE_ATTR x; STORE_NAME c""")
        self.target(("Tuple", [starred(("Tuple", [A, starred(B)])), slot(A, B)]), """
            UNPACK_EX (0, 1); UNPACK_EX (1, 0); STORE_NAME a; STORE_NAME b; LOAD_NAME a; LOAD_NAME b; STORE_SUBSCR""")

    def test_several_targets(self):
        self.assertEqual(body_of([("Assign", 1, [A, ("Attribute", B, "x"), ("Tuple", [C])], D)]), rows_of("""
            LOAD_NAME d; COPY 1; STORE_NAME a; COPY 1; LOAD_NAME b; STORE_ATTR x; UNPACK_SEQUENCE 1; STORE_NAME c"""))


class NameTests(unittest.TestCase):
    """Each name is loaded, stored and deleted by its kind."""

    def using(self, line):
        return [expr(A, line), assign(A, ONE, line + 1), ("Delete", line + 2, [A])]

    def endings(self, rows):
        """The words for the name a, without what is alike in all of them."""
        return [row[0] for row in rows if row[1] in ("a", ("a", False))]

    def of(self, tree, number):
        return self.endings(body_of(tree, number))

    def test_in_the_program(self):
        self.assertEqual(self.of(self.using(1), 0), ["LOAD_NAME", "STORE_NAME", "DELETE_NAME"])
        self.assertEqual(self.of([("Global", 1, ["a"])] + self.using(2), 0), [
            "LOAD_GLOBAL", "STORE_GLOBAL", "DELETE_GLOBAL"])
        self.assertEqual(self.of([expr(A)], 0), ["LOAD_NAME"])

    def test_in_a_function(self):
        self.assertEqual(self.of([function("f", self.using(2))], 1), ["LOAD_FAST", "STORE_FAST", "DELETE_FAST"])
        self.assertEqual(self.of([function("f", [("Global", 2, ["a"])] + self.using(3))], 1), [
            "LOAD_GLOBAL", "STORE_GLOBAL", "DELETE_GLOBAL"])
        self.assertEqual(self.of([function("f", [expr(A, 2)])], 1), ["LOAD_GLOBAL"])
        inner = function("g", [("Nonlocal", 6, ["a"])] + self.using(7), 5)
        tree = [function("f", self.using(2) + [inner])]
        self.assertEqual(self.of(tree, 1), ["LOAD_DEREF", "STORE_DEREF", "DELETE_DEREF", "LOAD_CLOSURE"])
        self.assertEqual(self.of(tree, 2), ["LOAD_DEREF", "STORE_DEREF", "DELETE_DEREF"])

    def test_in_a_class(self):
        self.assertEqual(self.of([class_of("C", self.using(2))], 1), ["LOAD_NAME", "STORE_NAME", "DELETE_NAME"])
        self.assertEqual(self.of([class_of("C", [expr(A, 2)])], 1), ["LOAD_NAME"])
        self.assertEqual(self.of([class_of("C", [("Global", 2, ["a"])] + self.using(3))], 1), [
            "LOAD_GLOBAL", "STORE_GLOBAL", "DELETE_GLOBAL"])

    def test_a_function_in_a_class(self):
        tree = [class_of("C", [assign(A, ONE, 2), function("f", [expr(A, 4)], 3)])]
        self.assertEqual(self.of(tree, 2), ["LOAD_GLOBAL"])

    def test_free_in_a_class(self):
        inner = class_of("C", [("Nonlocal", 6, ["a"])] + self.using(7), 5)
        tree = [function("f", [assign(A, ONE, 2), inner])]
        self.assertEqual(body_of(tree, 2)[5:], rows_of("""
            7: LOAD_LOCALS; LOAD_FROM_DICT_OR_DEREF a; POP_TOP; 8: LOAD_CONST 1; STORE_DEREF a; 9: DELETE_DEREF a"""))
        in_place = class_of("C", [("Nonlocal", 6, ["a"]), ("AugAssign", 7, A, "+", ONE)], 5)
        self.assertEqual(body_of([function("f", [assign(A, ONE, 2), in_place])], 2)[5:], rows_of("""
            7: LOAD_LOCALS; LOAD_FROM_DICT_OR_DEREF a; LOAD_CONST 1; BINARY_OP +=; STORE_DEREF a"""))
        used = [function("f", [assign(A, ONE, 2), class_of("C", [expr(A, 4)], 3)])]
        self.assertEqual(body_of(used, 2)[4:], rows_of("4: LOAD_LOCALS; LOAD_FROM_DICT_OR_DEREF a; POP_TOP"))

    def test_local_in_a_class_and_free_in_it_besides(self):
        tree = [function("f", [assign(A, ONE, 2), class_of("C", self.using(4) + [function("g", [expr(A, 8)], 7)], 3)])]
        self.assertEqual(self.of(tree, 2), ["LOAD_NAME", "STORE_NAME", "DELETE_NAME", "LOAD_CLOSURE"])
        self.assertEqual(self.of(tree, 3), ["LOAD_DEREF"])
        self.assertEqual(generated(tree)[2][0], ("COPY_FREE_VARS", 1, None))
        self.assertEqual(generated(tree)[1][0], ("MAKE_CELL", "a", None))

    def test_a_class_in_a_function(self):
        tree = [function("f", [assign(A, ONE, 2), class_of("C", self.using(4), 3), expr(A, 9)])]
        self.assertEqual(self.of(tree, 1), ["STORE_FAST", "LOAD_FAST"])
        self.assertEqual(self.of(tree, 2), ["LOAD_NAME", "STORE_NAME", "DELETE_NAME"])

    def test_names_bound_by_statements(self):
        for statement in (
            function("a", [("Pass", 4)], 3), class_of("a", [("Pass", 4)], 3), expr(named("a"), 3),
            ("For", 3, A, B, [("Pass", 4)], []), ("With", 3, [(B, A)], [("Pass", 4)]),
        ):
            self.assertIn("STORE_FAST", self.of([function("f", [statement], 2)], 1))
            self.assertIn("STORE_GLOBAL", self.of([function("f", [("Global", 2, ["a"]), statement])], 1))
            self.assertIn("STORE_NAME", self.of([statement], 0))

    def test_named_in_a_comprehension(self):
        value = ("ListComp", named("a", B), [clause(C, D)])
        self.assertEqual(self.of([expr(value)], 1), ["STORE_GLOBAL"])
        self.assertEqual(self.of([function("f", [expr(value, 2)])], 2), ["STORE_DEREF"])
        self.assertEqual(self.of([function("f", [expr(value, 2), expr(A, 3)])], 1), ["LOAD_CLOSURE", "LOAD_DEREF"])


if __name__ == "__main__":
    unittest.main()
