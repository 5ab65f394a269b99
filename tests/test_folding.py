"""Constants that are folded, and those that are left as they are."""

import unittest

from tests.rows import body_of, rows_of
from tests.samples import constant, expr, function, name

A = name("a")
GREAT = 10 ** 300


def binary(left, op, right):
    return ("BinOp", constant(left), op, constant(right))


def unary(op, value):
    return ("UnaryOp", op, value if isinstance(value, tuple) else constant(value))


class FoldingTests(unittest.TestCase):
    def rows(self, value):
        """The rows of a value that is stored in x."""
        rows = body_of([("Assign", 1, [name("x")], value)])
        self.assertEqual(rows[-1], ("STORE_NAME", "x", 1))
        return rows[:-1]

    def folded(self, value, result):
        rows = self.rows(value)
        self.assertEqual([row[0] for row in rows], ["LOAD_CONST"], value)
        self.assertEqual((rows[0][1], repr(rows[0][1])), (result, repr(result)), value)

    def left(self, value):
        rows = self.rows(value)
        self.assertGreater(len(rows), 1, value)
        return rows


class OperationTests(FoldingTests):
    def test_each_operation(self):
        for left in (0, 1, -1, 7, -7, 12, 250, 10 ** 20, -(10 ** 20)):
            for right in (0, 1, -1, 3, -3, 12, 10 ** 20):
                self.folded(binary(left, "+", right), left + right)
                self.folded(binary(left, "-", right), left - right)
                self.folded(binary(left, "&", right), left & right)
                self.folded(binary(left, "|", right), left | right)
                self.folded(binary(left, "^", right), left ^ right)
                if right != 0:
                    self.folded(binary(left, "//", right), left // right)
                    self.folded(binary(left, "mod", right), left % right)
        self.folded(binary(6, "*", -7), -42)
        self.folded(binary(-3, "**", 3), -27)
        self.folded(binary(-3, "**", 4), 81)
        self.folded(binary(5, "**", 0), 1)
        self.folded(binary(-5, "<<", 3), -40)
        self.folded(binary(-5, ">>", 1), -3)
        self.folded(binary(5, ">>", 1), 2)
        self.folded(binary(5, ">>", 0), 5)

    def test_signs(self):
        for value in (0, 1, -5, GREAT):
            self.folded(unary("-", value), -value)
            self.folded(unary("~", value), ~value)

    def test_great_numbers(self):
        self.folded(binary(GREAT, "+", GREAT), GREAT + GREAT)
        self.folded(binary(GREAT, "//", 7), GREAT // 7)
        self.folded(binary(GREAT, "-", 1), GREAT - 1)
        self.folded(binary(GREAT, ">>", 3), GREAT >> 3)
        self.folded(binary(7, ">>", GREAT), 0)
        self.folded(binary(-7, ">>", GREAT), -1)

    def test_what_raises_an_error_is_left(self):
        for left in (0, 1, -5, GREAT):
            for op, right in (("//", 0), ("mod", 0), ("<<", -1), (">>", -1), ("**", -1), ("**", -GREAT)):
                self.assertEqual(self.left(binary(left, op, right)), [
                    ("LOAD_CONST", left, 1), ("LOAD_CONST", right, 1), ("BINARY_OP", op, 1)])

    def test_limit_of_products(self):
        self.folded(binary(2 ** 63, "*", 2 ** 63), 2 ** 126)
        self.folded(binary(-(2 ** 64 - 1), "*", 2 ** 64 - 1), -((2 ** 64 - 1) ** 2))
        self.left(binary(2 ** 64, "*", 2 ** 63))
        self.left(binary(-(2 ** 64), "*", 2 ** 64 - 1))
        self.folded(binary(2 ** 127, "*", 0), 0)
        self.left(binary(2 ** 128, "*", 0))
        self.folded(binary(0, "*", 2 ** 128 - 1), 0)
        self.left(binary(0, "*", -(2 ** 128)))
        self.left(binary(GREAT, "*", 1))

    def test_limit_of_powers(self):
        self.folded(binary(2, "**", 64), 2 ** 64)
        self.left(binary(2, "**", 65))
        self.folded(binary(-3, "**", 64), 3 ** 64)
        self.left(binary(-3, "**", 65))
        self.folded(binary(1, "**", 128), 1)
        self.left(binary(1, "**", 129))
        self.folded(binary(-1, "**", 127), -1)
        self.folded(binary(2 ** 128 - 1, "**", 1), 2 ** 128 - 1)
        self.left(binary(2 ** 128, "**", 1))
        self.folded(binary(2 ** 128, "**", 0), 1)
        self.folded(binary(0, "**", GREAT), 0)
        self.folded(binary(0, "**", 0), 1)
        self.left(binary(2, "**", GREAT))

    def test_limit_of_shifts(self):
        self.folded(binary(1, "<<", 127), 2 ** 127)
        self.left(binary(1, "<<", 128))
        self.folded(binary(-4, "<<", 125), -(2 ** 127))
        self.left(binary(-4, "<<", 126))
        self.folded(binary(0, "<<", 128), 0)
        self.left(binary(0, "<<", 129))
        self.left(binary(1, "<<", GREAT))
        self.folded(binary(2 ** 128 - 1, "<<", 0), 2 ** 128 - 1)
        self.left(binary(2 ** 128, "<<", 0))

    def test_bools_and_strings_are_no_integers(self):
        for left, right in ((True, 1), (1, False), (True, True), ("a", 1), ("a", "b"), (None, 1), (1, None)):
            self.left(binary(left, "+", right))
            self.left(binary(left, "*", right))
            self.left(binary(left, "&", right))
        for value in (True, False, "a", None):
            self.left(unary("-", value))
            self.left(unary("~", value))
        self.left(unary("-", ("Tuple", [])))

    def test_not(self):
        for value in (None, True, False, 0, 1, -1, "", "a", GREAT):
            self.folded(unary("not", value), not value)
        self.folded(unary("not", ("Tuple", [])), True)
        self.folded(unary("not", ("Tuple", [constant(0)])), False)
        self.folded(unary("not", unary("not", "a")), True)
        self.left(unary("not", A))
        self.left(unary("not", ("List", [])))

    def test_nested_from_the_inside_outwards(self):
        value = ("BinOp", binary(2, "*", 3), "+", ("BinOp", unary("-", 4), "**", binary(1, "+", 1)))
        self.folded(value, 22)
        self.folded(unary("~", unary("-", binary(2, "<<", 3))), 15)
        self.folded(unary("not", unary("-", 1)), False)
        self.left(unary("-", unary("not", 1)))
        self.assertEqual(self.left(("BinOp", binary(1, "+", 2), "*", binary(1, "//", 0))), rows_of(
            "LOAD_CONST 3; LOAD_CONST 1; LOAD_CONST 0; BINARY_OP //; BINARY_OP *"))
        self.assertEqual(self.left(("BinOp", A, "+", binary(1, "+", 2))), rows_of(
            "LOAD_NAME a; LOAD_CONST 3; BINARY_OP +"))
        self.assertEqual(self.left(("BinOp", ("BinOp", A, "+", constant(1)), "+", constant(2))), rows_of(
            "LOAD_NAME a; LOAD_CONST 1; BINARY_OP +; LOAD_CONST 2; BINARY_OP +"))

    def test_a_limit_counts_for_what_is_folded(self):
        half = binary(2 ** 40, "*", 2 ** 40)
        self.assertEqual(self.left(("BinOp", half, "*", half)), [
            ("LOAD_CONST", 2 ** 80, 1), ("LOAD_CONST", 2 ** 80, 1), ("BINARY_OP", "*", 1)])


class TupleTests(FoldingTests):
    def test_tuples_of_constants(self):
        self.folded(("Tuple", []), ())
        self.folded(("Tuple", [constant(1), constant(True), constant(None), constant("s")]), (1, True, None, "s"))
        self.folded(("Tuple", [("Tuple", [binary(1, "+", 1)]), unary("-", 3)]), ((2,), -3))

    def test_what_is_no_constant_in_a_tuple(self):
        self.assertEqual(self.left(("Tuple", [constant(1), A])), rows_of("LOAD_CONST 1; LOAD_NAME a; BUILD_TUPLE 2"))
        self.assertEqual(self.left(("Tuple", [("Starred", constant(1))])), rows_of(
            "BUILD_LIST 0; LOAD_CONST 1; LIST_EXTEND 1; CALL_INTRINSIC_1 6"))
        self.assertEqual(self.left(("Tuple", [("Tuple", [constant(1)]), ("List", [])])), rows_of(
            "LOAD_CONST (1,); BUILD_LIST 0; BUILD_TUPLE 2"))
        self.assertEqual(self.left(("Tuple", [("Starred", ("Tuple", [constant(1)]))])), rows_of(
            "BUILD_LIST 0; LOAD_CONST (1,); LIST_EXTEND 1; CALL_INTRINSIC_1 6"))

    def test_tuples_of_tuples_are_not_added(self):
        one = ("Tuple", [constant(1)])
        self.assertEqual(self.left(("BinOp", one, "+", one)), rows_of("LOAD_CONST (1,); LOAD_CONST (1,); BINARY_OP +"))
        self.left(("BinOp", one, "*", constant(2)))

    def test_targets_are_not_folded(self):
        self.assertEqual(body_of([("Assign", 1, [("Tuple", [])], ("Tuple", []))]), rows_of(
            "LOAD_CONST (); UNPACK_SEQUENCE 0"))

    def test_a_tuple_as_index(self):
        index = ("Tuple", [constant(1), unary("-", 1)])
        self.assertEqual(self.left(("Subscript", A, index)), rows_of("LOAD_NAME a; LOAD_CONST (1, -1); BINARY_SUBSCR"))


class NotFoldedTests(FoldingTests):
    def test_choices_junctions_and_comparisons(self):
        one, two = constant(1), constant(2)
        self.assertEqual(self.left(("IfExp", one, one, two)), rows_of("""
            LOAD_CONST 1; TO_BOOL; POP_JUMP_IF_FALSE 1; LOAD_CONST 1; JUMP 0; LABEL 1; LOAD_CONST 2; LABEL 0"""))
        self.assertEqual(self.left(("BoolOp", "or", [one, two])), rows_of("""
            LOAD_CONST 1; COPY 1; TO_BOOL; POP_JUMP_IF_TRUE 0; POP_TOP; LOAD_CONST 2; LABEL 0"""))
        self.assertEqual(self.left(("Compare", one, ["<"], [two])), rows_of(
            "LOAD_CONST 1; LOAD_CONST 2; COMPARE_OP ('<', False)"))
        self.assertEqual(self.left(("UnaryOp", "not", ("Compare", one, ["is"], [two]))), rows_of(
            "LOAD_CONST 1; LOAD_CONST 2; IS_OP 0; TO_BOOL; UNARY_NOT"))

    def test_tests(self):
        self.assertEqual(body_of([("If", 1, constant(0), [("Pass", 2)], [])]), rows_of("""
            LOAD_CONST 0; TO_BOOL; POP_JUMP_IF_FALSE 0; 2: NOP; LABEL 0"""))
        self.assertEqual(body_of([("If", 1, binary(1, "+", 1), [("Pass", 2)], [])])[0], ("LOAD_CONST", 2, 1))
        # Constants first: what is left of this test is a constant, too.
        self.assertEqual(body_of([("Assert", 1, unary("not", 0), None)]), rows_of("""
            LOAD_CONST True; TO_BOOL; POP_JUMP_IF_TRUE 0; LOAD_ASSERTION_ERROR; RAISE_VARARGS 1; LABEL 0"""))

    def test_statements_of_constants(self):
        for value in (constant(1), constant("text"), binary(1, "+", 1), ("Tuple", []), unary("not", 1)):
            self.assertEqual(body_of([expr(value, 5)]), rows_of("5: NOP"))
        self.assertEqual(body_of([expr(("List", []), 5)]), rows_of("5: BUILD_LIST 0; POP_TOP"))

    def test_a_constant_that_is_returned(self):
        tree = [function("f", [("Return", 2, binary(1, "+", 1))])]
        self.assertEqual(body_of(tree, 1), rows_of("2: NOP; LOAD_CONST 2; RETURN_VALUE"))


if __name__ == "__main__":
    unittest.main()
