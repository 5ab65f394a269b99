"""The steps of the flow one by one, on rows that are written down for them."""

import unittest

from codewalk.flow import flowed
from codewalk.slots import numbers_of
from tests.rows import PLAIN_HEAD, flow_rows, rows_of

# Step 1 and 3 alone; NOPs stay.
NEEDED = False


def head_with(*parameters, cells=(), frees=()):
    return ("function", "f", "f", 1, (parameters, (), None, None), cells, frees, 3)


class StepTests(unittest.TestCase):
    def flow(self, before, after, passes=True, head=PLAIN_HEAD):
        self.maxDiff = None
        rows = rows_of(before)
        kept = list(rows)
        found = flowed(rows, head, passes)
        self.assertEqual(found, flow_rows(after))
        self.assertEqual([repr(row) for row in found], [repr(row) for row in flow_rows(after)])
        self.assertEqual(rows, kept)
        self.assertEqual(flowed(tuple(rows), head, passes), found)

    def short(self, before, after, **more):
        """The words, arguments and lines alone, for rows without handlers: `word argument` with a line as in rows."""
        found = flowed(rows_of(before), more.get("head", PLAIN_HEAD), more.get("passes", True))
        self.assertEqual([repr(row[:3]) for row in found], [repr(row) for row in rows_of(after)])


class FormTests(StepTests):
    def test_the_example(self):
        head = ("program", "<module>", "<module>", 1, ((), (), None, None), (), (), 0)
        rows = [("RESUME", 0, None), ("LOAD_CONST", 5, 1), ("STORE_NAME", "x", 1), ("LOAD_CONST", None, None),
                ("RETURN_VALUE", None, None)]
        due = [("RESUME", 0, None, None), ("LOAD_CONST", 5, 1, None), ("STORE_NAME", "x", 1, None),
               ("RETURN_CONST", None, 1, None)]
        self.assertEqual(flowed(rows, head), due)
        self.assertEqual(flowed(rows=rows, head=head, passes=True), due)
        self.assertEqual(flowed(passes=False, head=head, rows=rows), [
            ("RESUME", 0, None, None), ("LOAD_CONST", 5, 1, None), ("STORE_NAME", "x", 1, None),
            ("LOAD_CONST", None, 1, None), ("RETURN_VALUE", None, 1, None)])

    def test_new_lists_of_tuples(self):
        rows = rows_of("LOAD_CONST 1; RETURN_VALUE")
        self.assertIsNot(flowed(rows, PLAIN_HEAD), flowed(rows, PLAIN_HEAD))
        self.assertTrue(all(type(row) is tuple for row in flowed(rows, PLAIN_HEAD)))


class HandlerTests(StepTests):
    """Step 1."""

    def test_each_word_that_opens(self):
        for word, handler, begin in (
            ("SETUP_FINALLY", "(0, 1, False)", "LOAD_CONST 7"), ("SETUP_CLEANUP", "(0, 1, True)", "LOAD_CONST 7"),
            ("SETUP_WITH", "(0, 0, True)", "LOAD_CONST 7"),
        ):
            self.flow(f"""
                {begin}; {word} 0; 2: LOAD_NAME x; POP_TOP; 1: POP_BLOCK; RETURN_VALUE; LABEL 0; RERAISE 0""", f"""
                {begin} | 1
                NOP | 1
                LOAD_NAME x | 2 | {handler}
                POP_TOP | 2 | {handler}
                NOP | 1
                RETURN_VALUE | 1
                LABEL 0
                RERAISE 0 | 1""", NEEDED)

    def test_artificial_ones_are_taken_out(self):
        self.flow("""
            1: RESUME 0; !SETUP_FINALLY 3; 2: LOAD_NAME x; !POP_BLOCK; RETURN_VALUE; LABEL 3; 3: RERAISE 0""", """
            RESUME 0 | 1
            LOAD_NAME x | 2 | (3, 0, False)
            RETURN_VALUE | 2
            LABEL 3
            RERAISE 0 | 3""", NEEDED)

    def test_inside_of_one_another(self):
        self.flow("""
            SETUP_FINALLY 0; LOAD_CONST 1; SETUP_CLEANUP 1; LOAD_CONST 2; SETUP_WITH 2; NOP; POP_BLOCK; NOP
            POP_BLOCK; NOP; POP_BLOCK; RETURN_VALUE
            LABEL 0; RERAISE 0; LABEL 1; LOAD_NAME x; RERAISE 1; LABEL 2; POP_TOP; RERAISE 0""", """
            NOP | 1
            LOAD_CONST 1 | 1 | (0, 0, False)
            NOP | 1 | (0, 0, False)
            LOAD_CONST 2 | 1 | (1, 1, True)
            NOP | 1 | (1, 1, True)
            NOP | 1 | (2, 1, True)
            NOP | 1 | (1, 1, True)
            NOP | 1 | (1, 1, True)
            NOP | 1 | (0, 0, False)
            NOP | 1 | (0, 0, False)
            NOP | 1
            RETURN_VALUE | 1
            LABEL 0
            RERAISE 0 | 1
            LABEL 1
            LOAD_NAME x | 1 | (0, 0, False)
            RERAISE 1 | 1 | (0, 0, False)
            LABEL 2
            POP_TOP | 1 | (1, 1, True)
            RERAISE 0 | 1 | (1, 1, True)""", NEEDED)

    def test_depths_by_effects(self):
        effects = (
            ("LOAD_CONST 1; LOAD_CONST 2; LOAD_CONST 3; BUILD_TUPLE 3", 1), ("LOAD_CONST 1; UNPACK_EX (2, 1)", 4),
            ("LOAD_CONST 1; UNPACK_SEQUENCE 0", 0), ("LOAD_GLOBAL ('x', True)", 2), ("LOAD_GLOBAL ('x', False)", 1),
            ("LOAD_NAME x; LOAD_ATTR ('y', True)", 2), ("LOAD_NAME x; LOAD_ATTR ('y', False)", 1),
            ("LOAD_CODE 1; MAKE_FUNCTION", 1), ("LOAD_CLOSURE x", 1), ("LOAD_NAME x; BEFORE_WITH", 2),
            ("LOAD_NAME x; PUSH_NULL; LOAD_NAME y; LOAD_NAME z; CALL 2", 1),
            ("LOAD_NAME x; PUSH_NULL; LOAD_NAME y; LOAD_CONST ('k',); CALL_KW 1", 1),
            ("LOAD_NAME x; PUSH_NULL; LOAD_NAME y; BUILD_MAP 0; CALL_FUNCTION_EX 1", 1),
            ("LOAD_NAME x; PUSH_NULL; LOAD_NAME y; CALL_FUNCTION_EX 0", 1),
            ("LOAD_CONST 1; LOAD_CONST 2; LOAD_CONST 3; LOAD_CONST 4; BUILD_MAP 2", 1),
            ("LOAD_CONST 1; LOAD_CONST 2; LOAD_CONST ('a', 'b'); BUILD_CONST_KEY_MAP 2", 1),
            ("BUILD_LIST 0; LOAD_CONST 1; LIST_APPEND 1; LOAD_CONST 2; LIST_EXTEND 1", 1),
            ("BUILD_MAP 0; LOAD_CONST 1; LOAD_CONST 2; MAP_ADD 1; BUILD_MAP 0; DICT_MERGE 1", 1),
            ("LOAD_NAME x; LOAD_NAME y; COPY 2; COMPARE_OP ('<', False); SWAP 2", 2),
            ("LOAD_NAME x; LOAD_NAME y; LOAD_NAME z; BINARY_SLICE", 1), ("LOAD_NAME x; LOAD_NAME y; BINARY_SUBSCR", 1),
            ("LOAD_NAME x; LOAD_NAME y; LOAD_NAME z; LOAD_NAME u; STORE_SLICE", 0),
            ("LOAD_NAME x; LOAD_NAME y; LOAD_NAME z; STORE_SUBSCR", 0), ("LOAD_NAME x; LOAD_NAME y; STORE_ATTR z", 0),
            ("LOAD_NAME x; LOAD_NAME y; DELETE_SUBSCR", 0), ("LOAD_NAME x; DELETE_ATTR y", 0),
            ("LOAD_LOCALS; LOAD_FROM_DICT_OR_DEREF x", 1), ("LOAD_DEREF x; STORE_DEREF y; DELETE_DEREF x", 0),
            ("LOAD_ASSERTION_ERROR; LOAD_BUILD_CLASS", 2), ("LOAD_NAME x; TO_BOOL; UNARY_NOT; UNARY_INVERT", 1),
            ("LOAD_NAME x; GET_ITER; UNARY_NEGATIVE; GET_YIELD_FROM_ITER", 1),
            ("LOAD_NAME x; LOAD_NAME y; CONTAINS_OP 0; LOAD_NAME z; IS_OP 1", 1),
            ("LOAD_NAME x; LOAD_NAME y; CHECK_EXC_MATCH; POP_TOP", 1), ("LOAD_NAME x; YIELD_VALUE 0; RESUME 1", 1),
            ("LOAD_NAME x; PUSH_EXC_INFO; POP_TOP; POP_EXCEPT", 0), ("BUILD_LIST 0; CALL_INTRINSIC_1 6", 1),
            ("RETURN_GENERATOR; POP_TOP", 0), ("COPY_FREE_VARS 1; MAKE_CELL x", 0),
            ("LOAD_CONST (); LOAD_CODE 1; MAKE_FUNCTION; SET_FUNCTION_ATTRIBUTE 1", 1),
            ("LOAD_CONST 1; LOAD_CONST 2; LOAD_CONST 3; LOAD_NAME x; WITH_EXCEPT_START", 5),
            ("LOAD_CONST 1; LOAD_CONST 2; LOAD_CONST 3; CLEANUP_THROW; END_SEND", 1),
            ("LOAD_FAST x; STORE_FAST y; DELETE_FAST y", 0),
            ("LOAD_NAME x; STORE_GLOBAL y; DELETE_GLOBAL y; DELETE_NAME x", 0), ("LOAD_CONST 1; END_FOR", 0),
        )
        for rows, depth in effects:
            found = flowed(rows_of(f"{rows}; SETUP_FINALLY 0; NOP; LOAD_CONST 1; RETURN_VALUE; LABEL 0; RERAISE 0"),
                           PLAIN_HEAD, False)
            self.assertEqual([row[3] for row in found if row[0] == "RETURN_VALUE"], [(0, depth, False)], rows)

    def test_entries_along_jumps(self):
        self.flow("""
            LOAD_NAME x; GET_ITER; LABEL 0; FOR_ITER 1; STORE_NAME y; SETUP_FINALLY 2; NOP; POP_BLOCK; JUMP 0
            LABEL 1; SETUP_CLEANUP 3; END_FOR; POP_TOP; POP_BLOCK; LOAD_CONST 1; RETURN_VALUE
            LABEL 2; RERAISE 0; LABEL 3; RERAISE 1""", """
            LOAD_NAME x | 1
            GET_ITER | 1
            LABEL 0
            FOR_ITER 1 | 1
            STORE_NAME y | 1
            NOP | 1
            NOP | 1 | (2, 1, False)
            NOP | 1
            JUMP_BACKWARD 0 | 1
            LABEL 1
            NOP | 1
            END_FOR | 1 | (3, 2, True)
            POP_TOP | 1 | (3, 2, True)
            NOP | 1
            LOAD_CONST 1 | 1
            RETURN_VALUE | 1
            LABEL 2
            RERAISE 0 | 1
            LABEL 3
            RERAISE 1 | 1""", NEEDED)

    def test_yields(self):
        self.flow("""
            SETUP_CLEANUP 0; LOAD_CONST 1; YIELD_VALUE 0; RESUME 1; POP_TOP; SETUP_FINALLY 1
            LOAD_CONST 2; YIELD_VALUE 0; RESUME 1; POP_TOP; POP_BLOCK; LOAD_CONST 3; YIELD_VALUE 1; RESUME 2
            POP_BLOCK; YIELD_VALUE 0; RESUME 1; RETURN_VALUE; LABEL 0; RERAISE 1; LABEL 1; RERAISE 0""", """
            NOP | 1
            LOAD_CONST 1 | 1 | (0, 0, True)
            YIELD_VALUE 0 | 1 | (0, 0, True)
            RESUME 5 | 1 | (0, 0, True)
            POP_TOP | 1 | (0, 0, True)
            NOP | 1 | (0, 0, True)
            LOAD_CONST 2 | 1 | (1, 0, False)
            YIELD_VALUE 0 | 1 | (1, 0, False)
            RESUME 1 | 1 | (1, 0, False)
            POP_TOP | 1 | (1, 0, False)
            NOP | 1 | (0, 0, True)
            LOAD_CONST 3 | 1 | (0, 0, True)
            YIELD_VALUE 1 | 1 | (0, 0, True)
            RESUME 2 | 1 | (0, 0, True)
            NOP | 1
            YIELD_VALUE 0 | 1
            RESUME 1 | 1
            RETURN_VALUE | 1
            LABEL 0
            RERAISE 1 | 1
            LABEL 1
            RERAISE 0 | 1 | (0, 0, True)""", NEEDED)

    def test_what_nothing_reaches(self):
        self.flow("""
            LABEL 9; LOAD_CONST 1; RETURN_VALUE; NOP; LABEL 4; JUMP 5; LABEL 5; SETUP_FINALLY 6; NOP; POP_BLOCK; JUMP 4
            LABEL 6; RERAISE 0""", """
            LOAD_CONST 1 | 1
            RETURN_VALUE | 1""", NEEDED)

    def test_a_handler_with_no_row_under_it_is_not_reached(self):
        self.flow("SETUP_FINALLY 0; POP_BLOCK; LOAD_CONST 1; RETURN_VALUE; LABEL 0; RERAISE 0", """
            NOP | 1
            NOP | 1
            LOAD_CONST 1 | 1
            RETURN_VALUE | 1""", NEEDED)
        self.flow("""
            SETUP_FINALLY 0; SETUP_FINALLY 1; POP_BLOCK; POP_BLOCK; LOAD_CONST 1; RETURN_VALUE
            LABEL 0; RERAISE 0; LABEL 1; RERAISE 0""", """
            NOP | 1
            NOP | 1 | (0, 0, False)
            NOP | 1 | (0, 0, False)
            NOP | 1
            LOAD_CONST 1 | 1
            RETURN_VALUE | 1
            LABEL 0
            RERAISE 0 | 1""", NEEDED)

    def test_what_opens_and_closes_is_no_row_under_a_handler_where_it_is_artificial(self):
        self.flow("""
            1: SETUP_FINALLY 0; !SETUP_FINALLY 1; !POP_BLOCK; POP_BLOCK; LOAD_CONST 1; RETURN_VALUE
            LABEL 0; RERAISE 0; LABEL 1; RERAISE 0""", """
            NOP | 1
            NOP | 1
            LOAD_CONST 1 | 1
            RETURN_VALUE | 1""", NEEDED)

    def test_several_labels_at_one_row(self):
        self.flow("""
            LOAD_NAME x; POP_JUMP_IF_TRUE 3; LABEL 2; LABEL 3; LABEL 1; LOAD_CONST 1; RETURN_VALUE""", """
            LOAD_NAME x | 1
            POP_JUMP_IF_TRUE 3 | 1
            LABEL 3
            LOAD_CONST 1 | 1
            RETURN_VALUE | 1""", NEEDED)


class RoundTests(StepTests):
    """Step 2."""

    END = "9: LOAD_NAME z; RETURN_VALUE"

    def rule(self, before, after):
        """Rules on some rows in the middle of a code."""
        self.short(f"1: RESUME 0; {before}; {self.END}", f"1: RESUME 0; {after}; {self.END}")

    def test_a_truth_of_a_constant(self):
        for constant in (None, True, False, 0, 1, "", "a", (), (0,)):
            self.rule(f"2: LOAD_CONST {constant!r}; TO_BOOL; STORE_NAME x",
                      f"2: LOAD_CONST {bool(constant)}; STORE_NAME x")
        self.rule("2: LOAD_CONST 5; 3: TO_BOOL; STORE_NAME x", "2: NOP; 3: LOAD_CONST True; STORE_NAME x")
        self.rule("2: LOAD_CONST 5; !TO_BOOL; STORE_NAME x", "2: LOAD_CONST True; STORE_NAME x")
        self.rule("""2: LOAD_NAME y; POP_JUMP_IF_TRUE 0; LOAD_CONST 0; JUMP 1; LABEL 0; LOAD_CONST 1; LABEL 1; TO_BOOL
            POP_TOP""",
                  """2: LOAD_NAME y; POP_JUMP_IF_TRUE 0; LOAD_CONST 0; JUMP_FORWARD 1; LABEL 0; LOAD_CONST 1; LABEL 1
                      TO_BOOL; POP_TOP""")

    def test_b_jump_by_a_constant(self):
        self.rule("2: LOAD_CONST 1; POP_JUMP_IF_FALSE 0; LOAD_NAME x; POP_TOP; LABEL 0", "2: LOAD_NAME x; POP_TOP")
        self.rule("2: LOAD_CONST 0; POP_JUMP_IF_TRUE 0; LOAD_NAME x; POP_TOP; LABEL 0", "2: LOAD_NAME x; POP_TOP")
        self.rule("2: LOAD_CONST 0; POP_JUMP_IF_FALSE 0; LOAD_NAME x; POP_TOP; LABEL 0", "2: NOP")
        self.rule("2: LOAD_CONST 'a'; POP_JUMP_IF_TRUE 0; LOAD_NAME x; POP_TOP; LABEL 0", "2: NOP")
        self.rule("2: LOAD_CONST 0; TO_BOOL; 3: POP_JUMP_IF_TRUE 0; 4: LOAD_NAME x; POP_TOP; LABEL 0",
                  "2: NOP; 3: NOP; 4: LOAD_NAME x; POP_TOP")

    def test_a_ring_by_a_constant(self):
        self.short("1: RESUME 0; LABEL 0; 2: NOP; LOAD_CONST True; POP_JUMP_IF_TRUE 0; 9: LOAD_NAME z; RETURN_VALUE",
                   "1: RESUME 0; LABEL 0; 2: JUMP_BACKWARD 0")

    def test_c_truth_of_a_comparison(self):
        begin = "2: LOAD_NAME x; LOAD_NAME y;"
        for truth in (False, True):
            self.rule(f"{begin} COMPARE_OP ('<', {truth}); TO_BOOL; STORE_NAME v",
                      f"{begin} COMPARE_OP ('<', True); STORE_NAME v")
        self.rule(f"{begin} COMPARE_OP ('<', False); 3: TO_BOOL; TO_BOOL; STORE_NAME v",
                  f"{begin} COMPARE_OP ('<', True); 3: STORE_NAME v")
        for row in ("CONTAINS_OP 1", "IS_OP 0"):
            self.rule(f"{begin} {row}; TO_BOOL; STORE_NAME v", f"{begin} {row}; STORE_NAME v")
        self.rule("2: LOAD_NAME x; TO_BOOL; UNARY_NOT; TO_BOOL; TO_BOOL; STORE_NAME v",
                  "2: LOAD_NAME x; TO_BOOL; UNARY_NOT; STORE_NAME v")
        self.rule("2: LOAD_NAME x; TO_BOOL; TO_BOOL; STORE_NAME v", "2: LOAD_NAME x; TO_BOOL; STORE_NAME v")
        self.rule("2: LOAD_NAME x; LOAD_NAME y; CHECK_EXC_MATCH; TO_BOOL; STORE_NAME v; POP_TOP",
                  "2: LOAD_NAME x; LOAD_NAME y; CHECK_EXC_MATCH; STORE_NAME v; POP_TOP")
        self.rule(f"{begin} IS_OP 0; 3: TO_BOOL; 4: STORE_NAME v", f"{begin} IS_OP 0; 3: NOP; 4: STORE_NAME v")
        rows = "2: LOAD_NAME x; UNARY_NEGATIVE; TO_BOOL; POP_TOP"
        self.rule(rows, rows)

    def test_d_comparisons_with_none(self):
        for op, jump, due in (
            (0, "TRUE", "NONE"), (0, "FALSE", "NOT_NONE"), (1, "TRUE", "NOT_NONE"), (1, "FALSE", "NONE"),
        ):
            for between in ("", "TO_BOOL;"):
                self.rule(
                    f"2: LOAD_NAME x; LOAD_CONST None; IS_OP {op}; {between} POP_JUMP_IF_{jump} 0; 3: NOP; LABEL 0",
                    f"2: LOAD_NAME x; POP_JUMP_IF_{due} 0; 3: NOP; LABEL 0")
        self.rule("2: LOAD_NAME x; LOAD_CONST None; 3: IS_OP 0; 4: POP_JUMP_IF_TRUE 0; 5: NOP; LABEL 0",
                  "2: LOAD_NAME x; 3: NOP; 4: POP_JUMP_IF_NONE 0; 5: NOP; LABEL 0")
        for rows in ("2: LOAD_NAME x; LOAD_CONST False; IS_OP 0; POP_JUMP_IF_TRUE 0; 3: NOP; LABEL 0",
                     "2: LOAD_NAME x; LOAD_CONST None; IS_OP 0; STORE_NAME y"):
            self.rule(rows, rows)

    def test_e_global_and_null(self):
        self.rule("2: LOAD_GLOBAL ('g', False); PUSH_NULL; CALL 0; POP_TOP",
                  "2: LOAD_GLOBAL ('g', True); CALL 0; POP_TOP")
        self.rule("2: LOAD_GLOBAL ('g', False); 3: PUSH_NULL; 4: CALL 0; POP_TOP",
                  "2: LOAD_GLOBAL ('g', True); 3: NOP; 4: CALL 0; POP_TOP")
        self.rule("2: LOAD_GLOBAL ('g', True); PUSH_NULL; POP_TOP; CALL 0; POP_TOP",
                  "2: LOAD_GLOBAL ('g', True); PUSH_NULL; POP_TOP; CALL 0; POP_TOP")
        self.rule("2: LOAD_NAME g; PUSH_NULL; CALL 0; POP_TOP", "2: LOAD_NAME g; PUSH_NULL; CALL 0; POP_TOP")

    def test_f_constants_that_are_returned(self):
        self.short("1: RESUME 0; 2: LOAD_CONST 5; RETURN_VALUE", "1: RESUME 0; 2: RETURN_CONST 5")
        self.short("1: RESUME 0; 2: LOAD_CONST 5; 3: RETURN_VALUE", "1: RESUME 0; 2: NOP; 3: RETURN_CONST 5")
        self.short("1: RESUME 0; 2: LOAD_CONST 5; !RETURN_VALUE", "1: RESUME 0; 2: RETURN_CONST 5")
        self.short("1: RESUME 0; !LOAD_CONST 5; 3: RETURN_VALUE", "1: RESUME 0; 3: RETURN_CONST 5")
        self.short("!LOAD_CONST 5; !RETURN_VALUE", "!RETURN_CONST 5")
        self.short("2: LOAD_CODE 1; RETURN_VALUE", "2: LOAD_CODE 1; RETURN_VALUE")

    def test_a_label_between_keeps_rules_off(self):
        for first, second in (
            ("LOAD_CONST 5", "TO_BOOL"), ("COMPARE_OP ('<', False)", "TO_BOOL"), ("IS_OP 0", "TO_BOOL"),
            ("LOAD_GLOBAL ('g', False)", "PUSH_NULL"),
        ):
            before = f"""2: LOAD_NAME a; LOAD_NAME b; POP_JUMP_IF_TRUE 7; LOAD_NAME c; {first}; LABEL 0; {second}
                RAISE_VARARGS 2; LABEL 7; LOAD_NAME u; LOAD_NAME v; JUMP 0"""
            found = flowed(rows_of("1: RESUME 0;" + before), PLAIN_HEAD)
            self.assertIn(rows_of("2: " + first)[0] + (None,), found)
            self.assertIn(rows_of("2: " + second)[0] + (None,), found)

    def test_g_jumps_to_artificial_jumps(self):
        end = "LABEL 5; 8: LOAD_NAME y; POP_TOP; LABEL 6"
        for jump in ("POP_JUMP_IF_FALSE", "POP_JUMP_IF_TRUE", "POP_JUMP_IF_NONE", "POP_JUMP_IF_NOT_NONE"):
            self.rule(f"2: LOAD_NAME x; {jump} 3; 3: NOP; JUMP 5; LABEL 3; LABEL 4; !JUMP 6; {end}",
                      f"2: LOAD_NAME x; {jump} 6; 3: NOP; 8: LOAD_NAME y; POP_TOP; LABEL 6")
        self.rule(f"2: LOAD_NAME x; POP_JUMP_IF_FALSE 3; 3: NOP; JUMP 5; LABEL 3; 4: JUMP 6; {end}",
                  f"2: LOAD_NAME x; POP_JUMP_IF_FALSE 3; 3: JUMP_FORWARD 5; LABEL 3; 4: JUMP_FORWARD 6; {end}")

    def test_g_as_far_as_they_lead(self):
        self.rule("""2: LOAD_NAME x; POP_JUMP_IF_FALSE 0; LOAD_NAME y; POP_JUMP_IF_FALSE 1; 3: LOAD_NAME u; POP_TOP
            JUMP 4
                  LABEL 0; !JUMP 1; LABEL 1; !JUMP 2; LABEL 2; !JUMP 3; LABEL 4; 4: LOAD_NAME v; POP_TOP; LABEL 3""",
                  """2: LOAD_NAME x; POP_JUMP_IF_FALSE 3; LOAD_NAME y; POP_JUMP_IF_FALSE 3; 3: LOAD_NAME u; POP_TOP
                  4: LOAD_NAME v; POP_TOP; LABEL 3""")

    def test_g_rings_stay(self):
        rows = """1: RESUME 0; LABEL 0; !LOAD_CONST 1; !POP_JUMP_IF_TRUE 1; LABEL 1; !LOAD_CONST 1; !POP_JUMP_IF_TRUE 0
            9: LOAD_NAME z; RETURN_VALUE"""
        found = flowed(rows_of(rows), PLAIN_HEAD)
        self.assertEqual([row[0] for row in found], ["RESUME", "LABEL", "JUMP_BACKWARD"])

    def test_h_jumps_to_what_follows(self):
        for jump in ("JUMP", "JUMP_NO_INTERRUPT"):
            self.rule(f"2: LOAD_NAME x; POP_JUMP_IF_TRUE 2; 3: {jump} 1; LABEL 2; LABEL 1; LABEL 3",
                      "2: LOAD_NAME x; POP_JUMP_IF_TRUE 2; 3: NOP; LABEL 2")
            self.rule(f"2: LOAD_NAME x; POP_TOP; {jump} 1; LABEL 1", "2: LOAD_NAME x; POP_TOP")
        self.rule("2: LOAD_NAME x; POP_JUMP_IF_TRUE 1; LABEL 1", "2: LOAD_NAME x; POP_JUMP_IF_TRUE 1; LABEL 1")

    def test_i_what_is_no_longer_reached(self):
        self.rule("""2: LOAD_CONST 0; POP_JUMP_IF_FALSE 1; SETUP_FINALLY 2; LOAD_NAME x; POP_TOP; POP_BLOCK; LABEL 1
            JUMP 3; LABEL 2; POP_TOP; LABEL 3""",
                  "2: NOP")

    def test_j_artificial_nops(self):
        self.rule("!NOP; 2: LOAD_NAME x; !NOP; POP_TOP; !NOP", "2: LOAD_NAME x; POP_TOP")

    def test_j_lines_of_neighbours(self):
        self.rule("2: LOAD_NAME x; POP_TOP; NOP; 3: LOAD_NAME y; POP_TOP; 4: NOP; LOAD_NAME z; POP_TOP",
                  "2: LOAD_NAME x; POP_TOP; 3: LOAD_NAME y; POP_TOP; 4: LOAD_NAME z; POP_TOP")
        self.rule("2: LOAD_NAME x; POP_TOP; 3: NOP; 4: NOP; NOP; 5: LOAD_NAME y; POP_TOP; 6: NOP",
                  "2: LOAD_NAME x; POP_TOP; 3: NOP; 4: NOP; 5: LOAD_NAME y; POP_TOP; 6: NOP")

    def test_j_a_label_between(self):
        self.rule("2: LOAD_NAME x; POP_JUMP_IF_TRUE 0; 3: LOAD_NAME y; POP_TOP; LABEL 0; NOP; 4: LOAD_NAME u; POP_TOP",
                  "2: LOAD_NAME x; POP_JUMP_IF_TRUE 0; 3: LOAD_NAME y; POP_TOP; LABEL 0; NOP; 4: LOAD_NAME u; POP_TOP")
        self.rule("2: LOAD_NAME x; POP_JUMP_IF_TRUE 0; 3: NOP; LABEL 0; LOAD_NAME y; POP_TOP",
                  "2: LOAD_NAME x; POP_JUMP_IF_TRUE 0; 3: NOP; LABEL 0; LOAD_NAME y; POP_TOP")

    def test_j_a_row_that_does_not_go_on(self):
        self.rule("""2: LOAD_NAME x; POP_JUMP_IF_TRUE 0; LOAD_NAME y; RETURN_VALUE; LABEL 0; NOP; 4: LOAD_NAME u
            POP_TOP""",
                  """2: LOAD_NAME x; POP_JUMP_IF_TRUE 0; LOAD_NAME y; RETURN_VALUE; LABEL 0; NOP; 4: LOAD_NAME u
                      POP_TOP""")
        # A row that jumps on some way goes on as well.
        self.rule("2: LOAD_NAME x; POP_JUMP_IF_TRUE 0; NOP; 4: LOAD_NAME u; POP_TOP; LABEL 0",
                  "2: LOAD_NAME x; POP_JUMP_IF_TRUE 0; 4: LOAD_NAME u; POP_TOP; LABEL 0")

    def test_j_a_line_goes_on_to_an_artificial_row(self):
        self.rule("2: LOAD_NAME x; POP_TOP; 3: NOP; !LOAD_NAME y; !POP_TOP", """2: LOAD_NAME x; POP_TOP
            3: LOAD_NAME y; POP_TOP""")
        self.rule("2: LOAD_NAME x; POP_TOP; 3: NOP; !NOP; 4: LOAD_NAME y; POP_TOP",
                  "2: LOAD_NAME x; POP_TOP; 3: NOP; 4: LOAD_NAME y; POP_TOP")
        self.rule("2: LOAD_NAME x; POP_JUMP_IF_TRUE 0; 3: NOP; !JUMP 1; LABEL 0; 4: LOAD_NAME y; POP_TOP; LABEL 1",
                  "2: LOAD_NAME x; POP_JUMP_IF_TRUE 0; 3: JUMP_FORWARD 1; LABEL 0; 4: LOAD_NAME y; POP_TOP; LABEL 1")

    def test_several_rounds(self):
        self.rule("""2: LOAD_NAME x; LOAD_CONST None; IS_OP 1; TO_BOOL; UNARY_NOT; TO_BOOL; STORE_NAME y
                  3: LOAD_CONST 0; TO_BOOL; TO_BOOL; POP_JUMP_IF_TRUE 0; 4: LOAD_CONST 0; POP_JUMP_IF_FALSE 1
                  LABEL 0; NOP; LABEL 1""",
                  "2: LOAD_NAME x; LOAD_CONST None; IS_OP 1; UNARY_NOT; STORE_NAME y; 3: NOP; 4: NOP")

    def test_no_pass_without_passes(self):
        rows = """1: RESUME 0; 2: LOAD_CONST 1; TO_BOOL; POP_JUMP_IF_FALSE 0; NOP; JUMP 0; LABEL 0
            LOAD_GLOBAL ('g', False)
            PUSH_NULL; CALL 0; LOAD_FAST a; LOAD_FAST b; BUILD_TUPLE 3; POP_TOP; LOAD_CONST None; RETURN_VALUE"""
        head = head_with("a", "b")
        due = rows.replace("JUMP 0;", "JUMP_FORWARD 0;")
        self.short(rows, due, passes=False, head=head)


class LineTests(StepTests):
    """Step 3."""

    def lines(self, before, *due):
        """The lines of the rows that are no labels; what is taken out by passes is not among them."""
        found = flowed(rows_of(before), PLAIN_HEAD, False)
        self.assertEqual([row[2] for row in found if row[0] != "LABEL"], list(due))

    def test_the_row_ahead(self):
        self.lines("!RESUME 0; 2: LOAD_NAME x; !POP_TOP; !LOAD_NAME y; 3: POP_TOP; !LOAD_CONST 1; !RETURN_VALUE",
                   None, 2, 2, 2, 3, 3, 3)
        self.lines("!RESUME 0; !LOAD_NAME x; !RETURN_VALUE", None, None, None)

    def test_one_jump(self):
        self.lines("""2: LOAD_NAME x; POP_JUMP_IF_TRUE 0; 3: LOAD_NAME y; RETURN_VALUE; LABEL 0; !LOAD_NAME z
            !RETURN_VALUE""",
                   2, 2, 3, 3, 2, 2)
        self.lines("2: NOP; !JUMP 0; LABEL 1; LABEL 0; !LOAD_NAME z; !RETURN_VALUE", 2, 2, 2, 2)

    def test_for_iter_and_send(self):
        self.lines("""2: LOAD_NAME x; GET_ITER; LABEL 0; 3: FOR_ITER 1; POP_TOP; 4: JUMP 0; LABEL 1; !END_FOR; !POP_TOP
                   !LOAD_CONST 1; !RETURN_VALUE""", 2, 2, 3, 3, 4, 3, 3, 3, 3)
        self.lines("""2: LOAD_NAME x; LOAD_CONST 1; LABEL 0; 3: SEND 1; YIELD_VALUE 1; RESUME 2; 4: JUMP_NO_INTERRUPT 0
                   LABEL 1; !END_SEND; !RETURN_VALUE""", 2, 2, 3, 3, 3, 4, 3, 3)

    def test_the_row_ahead_and_a_label(self):
        self.lines("2: LOAD_NAME x; POP_TOP; LABEL 0; LABEL 1; !LOAD_NAME z; !RETURN_VALUE", 2, 2, 2, 2)
        self.lines("""2: LOAD_NAME x; POP_JUMP_IF_TRUE 0; 3: NOP; LABEL 0; !LOAD_NAME z
            !RETURN_VALUE""", 2, 2, 3, None, None)
        self.lines("2: LOAD_NAME x; POP_JUMP_IF_TRUE 0; LABEL 0; !LOAD_NAME z; !RETURN_VALUE", 2, 2, None, None)

    def test_two_jumps(self):
        self.lines("""2: LOAD_NAME x; POP_JUMP_IF_TRUE 0; LOAD_NAME x; POP_JUMP_IF_TRUE 0; LOAD_NAME y; RETURN_VALUE
                   LABEL 0; !LOAD_NAME z; !RETURN_VALUE""", 2, 2, 2, 2, 2, 2, None, None)
        self.lines("""2: LOAD_NAME x; POP_JUMP_IF_TRUE 0; LOAD_NAME x; POP_JUMP_IF_TRUE 1; LOAD_NAME y; RETURN_VALUE
                   LABEL 0; LABEL 1; !LOAD_NAME z; !RETURN_VALUE""", 2, 2, 2, 2, 2, 2, None, None)

    def test_exceptions(self):
        self.lines("2: SETUP_FINALLY 0; LOAD_NAME x; RETURN_VALUE; LABEL 0; !PUSH_EXC_INFO; 5: POP_TOP; !RERAISE 0",
                   2, 2, 2, None, 5, 5)

    def test_the_begin_is_a_way(self):
        self.lines("LABEL 0; !NOP; 2: LOAD_NAME x; POP_JUMP_IF_TRUE 0; 3: LOAD_NAME y; RETURN_VALUE",
                   None, 2, 2, 2, 3, 3)

    def test_lines_from_further_on(self):
        self.lines("""!RESUME 0; !JUMP 0; LABEL 1; !LOAD_NAME x; !RETURN_VALUE; LABEL 0; 4: NOP; !JUMP 1""",
                   None, None, 4, 4, 4, 4)


class ColdTests(StepTests):
    """Step 4."""

    def test_handlers_go_to_the_end(self):
        self.flow("""
            1: RESUME 0; SETUP_FINALLY 0; 2: LOAD_NAME x; POP_TOP; !POP_BLOCK; !JUMP 1
            LABEL 0; !PUSH_EXC_INFO; 3: POP_TOP; POP_EXCEPT; JUMP 1; LABEL 1; 4: LOAD_NAME y; RETURN_VALUE""", """
            RESUME 0 | 1
            LOAD_NAME x | 2 | (0, 0, False)
            POP_TOP | 2 | (0, 0, False)
            LABEL 1
            LOAD_NAME y | 4
            RETURN_VALUE | 4
            LABEL 0
            PUSH_EXC_INFO
            POP_TOP | 3
            POP_EXCEPT | 3
            JUMP_BACKWARD_NO_INTERRUPT 1 | 3""")

    def test_a_cold_row_that_goes_on_to_a_warm_one(self):
        self.flow("""
            1: RESUME 0; SETUP_FINALLY 0; 2: LOAD_NAME x; POP_TOP; POP_BLOCK; JUMP 5
            LABEL 0; 3: SETUP_CLEANUP 1; LOAD_NAME u; POP_TOP; POP_TOP; POP_BLOCK; LABEL 4; LABEL 5; 4: LOAD_NAME y
            POP_JUMP_IF_TRUE 4; LOAD_CONST 1; RETURN_VALUE; LABEL 1; 5: RERAISE 0""", """
            RESUME 0 | 1
            LOAD_NAME x | 2 | (0, 0, False)
            POP_TOP | 2 | (0, 0, False)
            LABEL 4
            LOAD_NAME y | 4
            POP_JUMP_IF_FALSE 2 | 4
            JUMP_BACKWARD 4 | 4
            LABEL 2
            RETURN_CONST 1 | 4
            LABEL 0
            LOAD_NAME u | 3 | (1, 1, True)
            POP_TOP | 3 | (1, 1, True)
            POP_TOP | 3 | (1, 1, True)
            JUMP_BACKWARD_NO_INTERRUPT 4 | 3 | (1, 1, True)
            LABEL 1
            RERAISE 0 | 5""")

    def test_cold_rows_keep_their_order(self):
        found = flowed(rows_of("""
            1: SETUP_FINALLY 0; LOAD_NAME x; POP_TOP; POP_BLOCK; JUMP 1; LABEL 0; 2: POP_TOP; LABEL 1
            3: SETUP_FINALLY 2; LOAD_NAME y; POP_TOP; POP_BLOCK; JUMP 3; LABEL 2; 4: POP_TOP; LABEL 3
            5: LOAD_NAME z; RETURN_VALUE
            """), PLAIN_HEAD)
        self.assertEqual([(row[0], row[2]) for row in found], [
            ("LOAD_NAME", 1), ("POP_TOP", 1), ("LABEL", None), ("LOAD_NAME", 3), ("POP_TOP", 3), ("LABEL", None),
            ("LOAD_NAME", 5), ("RETURN_VALUE", 5), ("LABEL", None), ("POP_TOP", 2), ("JUMP_BACKWARD_NO_INTERRUPT", 2),
            ("LABEL", None), ("POP_TOP", 4), ("JUMP_BACKWARD_NO_INTERRUPT", 4)])

    def test_jumps_between_cold_rows_and_tests_to_warm_ones(self):
        found = flowed(rows_of("""
            1: SETUP_FINALLY 0; LOAD_NAME x; POP_TOP; POP_BLOCK; LABEL 1; 2: LOAD_NAME y; RETURN_VALUE
            LABEL 0; 3: POP_TOP; LOAD_NAME u; POP_JUMP_IF_TRUE 1; LOAD_NAME v; POP_JUMP_IF_FALSE 3; NOP; JUMP 4
            LABEL 3; 4: LOAD_NAME w; POP_TOP; LABEL 4; JUMP 1"""), PLAIN_HEAD)
        self.assertEqual([row[:2] for row in found[-11:]], [
            ("POP_JUMP_IF_FALSE", 2), ("JUMP_BACKWARD", 1), ("LABEL", 2), ("LOAD_NAME", "v"), ("POP_JUMP_IF_FALSE", 3),
            ("JUMP_FORWARD", 4), ("LABEL", 3), ("LOAD_NAME", "w"), ("POP_TOP", None), ("LABEL", 4),
            ("JUMP_BACKWARD_NO_INTERRUPT", 1)])

    def test_nothing_cold(self):
        self.short("1: RESUME 0; 2: LOAD_NAME x; POP_JUMP_IF_TRUE 0; 3: NOP; LABEL 0; 4: LOAD_NAME y; RETURN_VALUE",
                   "1: RESUME 0; 2: LOAD_NAME x; POP_JUMP_IF_TRUE 0; 3: NOP; LABEL 0; 4: LOAD_NAME y; RETURN_VALUE")


class CheckTests(StepTests):
    """Step 5."""

    def checked(self, before, head=PLAIN_HEAD):
        """The names that are loaded, in order, those with a check in capitals."""
        found = flowed(rows_of(before), head, False)
        return "".join([row[1].upper() if row[0] == "LOAD_FAST_CHECK" else row[1]
                        for row in found if row[0].startswith("LOAD_FAST")])

    END = "; LOAD_CONST 1; RETURN_VALUE"

    def check(self, before, due, head=PLAIN_HEAD):
        self.assertEqual(self.checked(before + self.END, head), due)

    def test_parameters_and_others(self):
        head = ("function", "f", "f", 1, (("a",), ("b",), "c", "d"), (), (), 15)
        self.check("""LOAD_FAST a; LOAD_FAST b; LOAD_FAST c; LOAD_FAST d; LOAD_FAST e; BUILD_TUPLE 5
            POP_TOP""", "abcdE", head)

    def test_stores_deletes_and_checks(self):
        self.check("LOAD_CONST 1; STORE_FAST x; LOAD_FAST x; POP_TOP", "x")
        self.check("LOAD_FAST x; LOAD_FAST x; BUILD_TUPLE 2; POP_TOP", "Xx")
        self.check("LOAD_CONST 1; STORE_FAST x; DELETE_FAST x; LOAD_FAST x; LOAD_FAST x; BUILD_TUPLE 2; POP_TOP", "Xx")
        self.check("DELETE_FAST a; LOAD_FAST a; POP_TOP", "A", head_with("a"))
        self.check("LOAD_FAST a; POP_TOP; DELETE_FAST a", "a", head_with("a"))

    def test_branches(self):
        branch = "LOAD_NAME n; POP_JUMP_IF_TRUE 0; {}; JUMP 1; LABEL 0; {}; LABEL 1; LOAD_FAST x; POP_TOP"
        store = "LOAD_CONST 1; STORE_FAST x"
        self.check(branch.format(store, store), "x")
        self.check(branch.format(store, "NOP"), "X")
        self.check(branch.format("NOP", store), "X")
        self.check("LOAD_CONST 1; STORE_FAST x;" + branch.format("DELETE_FAST x", "NOP"), "X")
        self.check(branch.format("LOAD_FAST x; POP_TOP", store), "Xx")
        self.check("LOAD_NAME n; POP_JUMP_IF_TRUE 0; LOAD_NAME n; RAISE_VARARGS 1; LABEL 0; LOAD_FAST x; POP_TOP", "X")

    def test_loops(self):
        self.check("LOAD_CONST 1; STORE_FAST x; LABEL 0; LOAD_FAST x; POP_TOP; LOAD_NAME n; POP_JUMP_IF_TRUE 0", "x")
        self.check("""LOAD_CONST 1; STORE_FAST x; LABEL 0; LOAD_FAST x; POP_TOP; DELETE_FAST x; LOAD_NAME n
            POP_JUMP_IF_TRUE 0""", "X")
        self.check("""LOAD_NAME n; GET_ITER; LABEL 0; FOR_ITER 1; STORE_FAST x; LOAD_FAST x; POP_TOP; JUMP 0
                   LABEL 1; END_FOR; POP_TOP; LOAD_FAST x; POP_TOP""", "xX")

    def test_loops_in_loops(self):
        self.check("""LOAD_CONST 1; STORE_FAST x; LABEL 0; LABEL 1; LOAD_FAST x; POP_TOP; LOAD_NAME n
            POP_JUMP_IF_TRUE 1
                   DELETE_FAST x; LOAD_NAME n; POP_JUMP_IF_FALSE 2; LOAD_CONST 1; STORE_FAST x; LABEL 2
                   LOAD_NAME n; POP_JUMP_IF_TRUE 0; LOAD_FAST x; POP_TOP""", "XX")

    def test_exceptions(self):
        def guarded(rows):
            return f"""SETUP_FINALLY 0; {rows}; POP_BLOCK; LOAD_CONST 1; RETURN_VALUE; LABEL 0; POP_TOP; LOAD_FAST x
                POP_TOP"""
        store = "LOAD_CONST 1; STORE_FAST x"
        # No exception comes from what is quiet: no way leads to the handler.
        self.check(guarded(store), "x")
        self.check(guarded(f"{store}; LOAD_NAME n; POP_TOP"), "x")
        self.check(guarded(f"LOAD_NAME n; POP_TOP; {store}"), "X")
        self.check(f"{store};" + guarded("DELETE_FAST x"), "x")
        self.check(f"{store};" + guarded("DELETE_FAST x; LOAD_NAME n; POP_TOP"), "X")
        self.check(guarded("LOAD_FAST x; POP_TOP"), "XX")
        self.check(f"{store};" + guarded("LOAD_FAST x; POP_TOP"), "xx")
        # What is checked raises, as the names were ahead of it.
        self.check(f"{store};" + guarded("LOAD_FAST y; POP_TOP; DELETE_FAST x"), "Yx")

    def test_a_check_that_comes_late_raises_as_well(self):
        """The load in the loop is checked only since the loop deletes its name behind it."""
        self.check("""LOAD_CONST 1; STORE_FAST y; LABEL 1; LOAD_CONST 1; STORE_FAST x; DELETE_FAST x
            SETUP_FINALLY 0; LOAD_FAST y
                   POP_TOP; POP_BLOCK; DELETE_FAST y; LOAD_NAME n; POP_JUMP_IF_TRUE 1; LOAD_CONST 1; RETURN_VALUE
                   LABEL 0; POP_TOP; LOAD_FAST x; POP_TOP""", "YX")

    def test_words_that_are_quiet_and_others(self):
        store = "LOAD_CONST 1; STORE_FAST x"
        for rows, quiet in (
            ("NOP", True), ("BUILD_TUPLE 0; POP_TOP", True), ("PUSH_NULL; POP_TOP", True), ("""LOAD_CODE 1
                POP_TOP""", True),
            ("LOAD_CLOSURE c; POP_TOP", True), ("LOAD_CONST 1; STORE_NAME n", True), ("""LOAD_CONST 1
                STORE_DEREF c""", True),
            ("LOAD_CONST 1; STORE_GLOBAL n", True), ("LOAD_CONST 1; COPY 1; SWAP 2; IS_OP 0; UNARY_NOT; POP_TOP", True),
            ("BUILD_LIST 0; LOAD_CONST 1; LIST_APPEND 1; CALL_INTRINSIC_1 6; POP_TOP", True), ("RESUME 1", True),
            ("LOAD_ASSERTION_ERROR; LOAD_BUILD_CLASS; LOAD_LOCALS; BUILD_TUPLE 3; POP_TOP", True),
            ("""LOAD_CONST (); LOAD_CODE 1; MAKE_FUNCTION; SET_FUNCTION_ATTRIBUTE 1
                POP_TOP""", True), ("MAKE_CELL c", True),
            ("LOAD_CONST 1; PUSH_EXC_INFO; POP_TOP; POP_EXCEPT", True), ("COPY_FREE_VARS 1", True),
            ("LOAD_CONST 1; POP_JUMP_IF_NONE 9; LABEL 9", True), ("JUMP 9; LABEL 9", True),
            ("LOAD_NAME n; POP_TOP", False), ("LOAD_GLOBAL ('n', False); POP_TOP", False), ("""LOAD_DEREF c
                POP_TOP""", False),
            ("LOAD_CONST 1; TO_BOOL; POP_TOP", False), ("BUILD_MAP 0; POP_TOP", False), ("DELETE_FAST y", False),
            ("BUILD_LIST 0; LOAD_CONST (); LIST_EXTEND 1; POP_TOP", False), ("LOAD_CONST 1; GET_ITER; POP_TOP", False),
            ("LOAD_CONST 1; YIELD_VALUE 0; RESUME 1; POP_TOP", False), ("LOAD_CONST 1; UNARY_NEGATIVE; POP_TOP", False),
            ("LOAD_CONST 1; LOAD_CONST 2; BINARY_OP +; POP_TOP", False), ("LOAD_FAST_CHECK y; POP_TOP", False),
            ("LOAD_CONST 1; LOAD_CONST 1; CONTAINS_OP 0; POP_TOP", False), ("LOAD_CONST 1; UNPACK_SEQUENCE 0", False),
        ):
            found = self.checked(f"""SETUP_FINALLY 0; {rows}; {store}; POP_BLOCK; LOAD_CONST 1; RETURN_VALUE
                LABEL 0; POP_TOP; LOAD_FAST x; POP_TOP {self.END}""")
            self.assertEqual(found[-1], "x" if quiet else "X", rows)

    def test_cells_are_not_meant(self):
        head = head_with(cells=("c",), frees=("d",))
        self.check("LOAD_CLOSURE c; LOAD_DEREF d; BUILD_TUPLE 2; POP_TOP", "", head)

    def test_with_passes(self):
        found = flowed(rows_of("LOAD_FAST x; LOAD_FAST x; BUILD_TUPLE 2; RETURN_VALUE"), PLAIN_HEAD)
        self.assertEqual([row[0] for row in found], ["LOAD_FAST_CHECK", "LOAD_FAST", "BUILD_TUPLE", "RETURN_VALUE"])


class PairTests(StepTests):
    """Step 6."""

    HEAD = head_with("a", "b", "c", "d")

    def pairs(self, before, after, head=None):
        self.short(before + "; 9: LOAD_NAME n; RETURN_VALUE", after + "; 9: LOAD_NAME n; RETURN_VALUE",
                   head=head or self.HEAD)

    def test_each_sort(self):
        self.pairs("2: LOAD_FAST a; LOAD_FAST b; POP_TOP; POP_TOP", """2: LOAD_FAST_LOAD_FAST ('a', 'b'); POP_TOP
            POP_TOP""")
        self.pairs("2: LOAD_NAME n; STORE_FAST a; LOAD_FAST b; POP_TOP", """2: LOAD_NAME n
            STORE_FAST_LOAD_FAST ('a', 'b'); POP_TOP""")
        self.pairs("2: LOAD_NAME n; UNPACK_SEQUENCE 2; STORE_FAST a; STORE_FAST b",
                   "2: LOAD_NAME n; UNPACK_SEQUENCE 2; STORE_FAST_STORE_FAST ('a', 'b')")
        self.pairs("2: LOAD_FAST a; STORE_FAST b", "2: LOAD_FAST a; STORE_FAST b")

    def test_several_in_a_row(self):
        self.pairs("2: LOAD_FAST a; LOAD_FAST b; LOAD_FAST c; BUILD_TUPLE 3; POP_TOP",
                   "2: LOAD_FAST_LOAD_FAST ('a', 'b'); LOAD_FAST c; BUILD_TUPLE 3; POP_TOP")
        self.pairs("2: LOAD_FAST a; LOAD_FAST b; LOAD_FAST c; LOAD_FAST d; BUILD_TUPLE 4; POP_TOP",
                   "2: LOAD_FAST_LOAD_FAST ('a', 'b'); LOAD_FAST_LOAD_FAST ('c', 'd'); BUILD_TUPLE 4; POP_TOP")
        self.pairs("2: LOAD_NAME n; UNPACK_SEQUENCE 3; STORE_FAST a; STORE_FAST b; STORE_FAST c; LOAD_FAST d; POP_TOP",
                   """2: LOAD_NAME n; UNPACK_SEQUENCE 3; STORE_FAST_STORE_FAST ('a', 'b')
                       STORE_FAST_LOAD_FAST ('c', 'd'); POP_TOP""")

    def test_unlike_lines(self):
        self.pairs("2: LOAD_FAST a; 3: LOAD_FAST b; POP_TOP; POP_TOP", """2: LOAD_FAST a; 3: LOAD_FAST b; POP_TOP
            POP_TOP""")
        self.pairs("2: LOAD_FAST a; 3: LOAD_FAST b; LOAD_FAST c; BUILD_TUPLE 3; POP_TOP",
                   "2: LOAD_FAST a; 3: LOAD_FAST_LOAD_FAST ('b', 'c'); BUILD_TUPLE 3; POP_TOP")

    def test_a_label_between(self):
        found = flowed(rows_of("""LOAD_NAME n; STORE_FAST a; LABEL 0; LOAD_FAST b; POP_JUMP_IF_TRUE 0; LOAD_CONST 1
            RETURN_VALUE"""), self.HEAD)
        self.assertEqual([row[0] for row in found][:4], ["LOAD_NAME", "STORE_FAST", "LABEL", "LOAD_FAST"])

    def test_unlike_handlers(self):
        found = flowed(rows_of("""SETUP_FINALLY 0; LOAD_NAME n; STORE_FAST a; POP_BLOCK; LOAD_FAST b; RETURN_VALUE
            LABEL 0; RERAISE 0"""), self.HEAD)
        self.assertEqual([row[0] for row in found][:4], ["LOAD_NAME", "STORE_FAST", "LOAD_FAST", "RETURN_VALUE"])

    def test_numbers(self):
        names = [f"p{at}" for at in range(17)]
        load = "2: LOAD_FAST {}; LOAD_FAST {}; POP_TOP; POP_TOP"
        head = head_with(*names)
        self.pairs(load.format("p15", "p0"), "2: LOAD_FAST_LOAD_FAST ('p15', 'p0'); POP_TOP; POP_TOP", head)
        self.pairs(load.format("p16", "p0"), load.format("p16", "p0"), head)
        self.pairs(load.format("p0", "p16"), load.format("p0", "p16"), head)

    def test_numbers_of_names_that_occur_in_rows(self):
        """Names get numbers as they occur, whatever the word; cells come behind them all."""
        stores = "; ".join([f"LOAD_NAME n; STORE_FAST v{at}; NOP" for at in range(15)])
        head = head_with("p", cells=("c",))
        begin = f"2: MAKE_CELL c; {stores};"
        found = flowed(rows_of(f"{begin} 3: LOAD_FAST v14; LOAD_FAST p; BUILD_TUPLE 2; RETURN_VALUE"), head)
        self.assertIn("LOAD_FAST_LOAD_FAST", [row[0] for row in found])
        found = flowed(rows_of(f"""2: DELETE_FAST w; {stores}; 3: LOAD_FAST v14; LOAD_FAST p; BUILD_TUPLE 2
            RETURN_VALUE"""), head)
        self.assertNotIn("LOAD_FAST_LOAD_FAST", [row[0] for row in found])

    def test_numbers_by_themselves(self):
        head = ("function", "f", "f", 1, (("b",), ("a",), None, "m"), ("a", "z"), ("y",), 11)
        rows = [("MAKE_CELL", "a", None, None), ("LOAD_CLOSURE", "z", 1, None), ("LOAD_NAME", "n", 1, None),
                ("STORE_FAST_LOAD_FAST", ("x", "b"), 1, None), ("LOAD_DEREF", "y", 1, None),
                ("DELETE_FAST", "w", 1, None)]
        self.assertEqual(numbers_of(rows, head), {"b": 0, "a": 1, "m": 2, "x": 3, "w": 4, "z": 5, "y": 6})

    def test_numbers_of_rest_and_more(self):
        names = tuple(f"p{at}" for at in range(14))
        head = ("function", "f", "f", 1, (names, ("o",), "r", "m"), (), (), 15)
        found = flowed(rows_of("LOAD_FAST o; LOAD_FAST r; LOAD_FAST r; LOAD_FAST m; BUILD_TUPLE 4; RETURN_VALUE"), head)
        self.assertEqual([row[0] for row in found], [
            "LOAD_FAST_LOAD_FAST", "LOAD_FAST", "LOAD_FAST", "BUILD_TUPLE", "RETURN_VALUE"])


class JumpTests(StepTests):
    """Step 7."""

    def test_jumps(self):
        self.short("""2: NOP; JUMP 1; LABEL 0; 3: LOAD_NAME x; RETURN_VALUE; LABEL 1; 4: JUMP_NO_INTERRUPT 2; LABEL 3
            5: JUMP 0; LABEL 2; 6: JUMP_NO_INTERRUPT 3""",
                   """2: NOP; JUMP_FORWARD 1; LABEL 0; 3: LOAD_NAME x; RETURN_VALUE; LABEL 1; 4: JUMP_FORWARD 2
                       LABEL 3; 5: JUMP_BACKWARD 0; LABEL 2; 6: JUMP_BACKWARD_NO_INTERRUPT 3""",
                   passes=False)

    def test_tests_that_jump_back(self):
        for word, other in (("FALSE", "TRUE"), ("TRUE", "FALSE"), ("NONE", "NOT_NONE"), ("NOT_NONE", "NONE")):
            self.flow(f"""
                1: SETUP_CLEANUP 3; LABEL 0; 2: LOAD_NAME x; POP_JUMP_IF_{word} 0; POP_BLOCK; LOAD_CONST 1; RETURN_VALUE
                LABEL 3; 4: RERAISE 1""", f"""
                NOP | 1
                LABEL 0
                LOAD_NAME x | 2 | (3, 0, True)
                POP_JUMP_IF_{other} 1 | 2 | (3, 0, True)
                JUMP_BACKWARD 0 | 2 | (3, 0, True)
                LABEL 1
                NOP | 2
                LOAD_CONST 1 | 2
                RETURN_VALUE | 2
                LABEL 3
                RERAISE 1 | 4""", NEEDED)
            self.short(f"""2: LOAD_NAME x; POP_JUMP_IF_{word} 0; LOAD_CONST 1; RETURN_VALUE; LABEL 0; LOAD_CONST 2
                RETURN_VALUE""",
                       f"""2: LOAD_NAME x; POP_JUMP_IF_{word} 0; LOAD_CONST 1; RETURN_VALUE; LABEL 0; LOAD_CONST 2
                           RETURN_VALUE""",
                       passes=False)

    def test_new_labels_are_the_least_that_are_free(self):
        found = flowed(rows_of("""
            LABEL 0; LABEL 2; LABEL 5; 2: LOAD_NAME x; POP_JUMP_IF_TRUE 0; LOAD_NAME x; POP_JUMP_IF_TRUE 2; LOAD_NAME x
            POP_JUMP_IF_TRUE 0; LOAD_NAME x; POP_JUMP_IF_TRUE 7; LABEL 7; LOAD_CONST 1; RETURN_VALUE"""), PLAIN_HEAD)
        self.assertEqual([row[1] for row in found if row[0] == "LABEL"], [0, 2, 1, 3, 4, 7])


if __name__ == "__main__":
    unittest.main()
