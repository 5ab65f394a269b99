"""Which codes are right: what lies on the stack along the ways, which locals are bound, and the stack size."""

import sys
import unittest

from codewalk.assembly import compiled
from codewalk.codes import Code
from codewalk.errors import NoProgram
from codewalk.judging import judged
from codewalk.tables import exception_bytes, exception_rows
from tests import judge_by_the_book
from tests.codes import as_words, changed, codes_in, made
from tests.opcodes import CACHES, NUMBERS, WORDS
from tests.programs import Maker
from tests.samples import assign, constant, name, numbers
from tests.test_judged import JudgedTests

GENERATOR = {"flags": 35}
START = "RETURN_GENERATOR; POP_TOP; RESUME"

# What leaves an entry of each kind on the stack of a generator with a cell and a free name, one line for each.
SETUP = "COPY_FREE_VARS 1; MAKE_CELL 1; RETURN_GENERATOR; POP_TOP; RESUME"
FIELDS = {"flags": 35, "slots": ("a", "b", "c"), "kinds": (32, 64, 128)}
KINDS = {
    "value": "LOAD_CONST 0", "bool": "LOAD_CONST 1", "iterator": "LOAD_CONST 0; GET_ITER",
    "source": "LOAD_CONST 0; GET_YIELD_FROM_ITER", "list": "BUILD_LIST 0", "dict": "BUILD_MAP 0",
    "function": "LOAD_CONST 5; MAKE_FUNCTION", "tuple 2": "LOAD_CONST 4", "tuple 0": "BUILD_TUPLE 0", "null": "PUSH_NULL",
    "cell": "LOAD_FAST 1", "cells 1": "LOAD_FAST 2; BUILD_TUPLE 1",
}
IS_VALUE = ("value", "bool", "iterator", "source", "list", "dict", "function", "tuple 2", "tuple 0")
INNER = made("RESUME; RETURN_CONST 0", flags=3)
CONSTANTS = (None, True, 7, "s", (1, 2), INNER)


class WaysTests(JudgedTests):
    def kinds(self, *kinds):
        """Instructions that leave entries of these kinds."""
        return "; ".join([KINDS[kind] for kind in kinds])

    def verdict(self, kinds, row, rest="RAISE_VARARGS", **fields):
        """What is said of an instruction behind entries of kinds: None if it is right, else the word."""
        begin = "; ".join([SETUP, *[KINDS[kind] for kind in kinds]])
        at = len(made(begin, size=1, constants=CONSTANTS, **FIELDS).code)
        given = {**FIELDS, "constants": CONSTANTS, **fields}
        found = judged(made(f"{begin}; {row}; {rest}", size=1, **given))
        self.assertEqual(found, judge_by_the_book.judged(made(f"{begin}; {row}; {rest}", size=1, **given)))
        if found in ("right", ("size", 0)) or found[1] > at:
            return None
        self.assertEqual(found[1], at, (kinds, row, found))
        return found[0]


class KindTests(WaysTests):
    def test_what_takes_values_alone(self):
        for row, many in (
            ("BINARY_SLICE", 3), ("BINARY_SUBSCR", 2), ("DELETE_SUBSCR", 2), ("END_SEND", 2), ("GET_ITER", 1),
            ("GET_YIELD_FROM_ITER", 1), ("BEFORE_WITH", 1), ("STORE_SLICE", 4), ("STORE_SUBSCR", 3), ("TO_BOOL", 1),
            ("UNARY_INVERT", 1), ("UNARY_NEGATIVE", 1), ("BINARY_OP 0", 2), ("COMPARE_OP 2", 2), ("COMPARE_OP 18", 2),
            ("CONTAINS_OP 0", 2), ("IS_OP 0", 2), ("DELETE_ATTR 0", 1), ("LOAD_ATTR 0", 1), ("LOAD_ATTR 1", 1),
            ("POP_JUMP_IF_NONE 0", 1), ("POP_JUMP_IF_NOT_NONE 0", 1), ("RAISE_VARARGS 1", 1), ("RAISE_VARARGS 2", 2),
            ("RETURN_VALUE", 1), ("STORE_ATTR 0", 2), ("STORE_DEREF 1", 1), ("STORE_FAST 0", 1), ("STORE_GLOBAL 0", 1),
            ("STORE_FAST_LOAD_FAST 0", 1), ("STORE_FAST_STORE_FAST 0", 2), ("UNPACK_EX 0", 1), ("UNPACK_SEQUENCE 2", 1),
            ("YIELD_VALUE 0", 1), ("BUILD_LIST 2", 2), ("BUILD_MAP 1", 2), ("BUILD_TUPLE 2", 2),
            ("LOAD_CONST 4; BUILD_CONST_KEY_MAP 2", 2),
        ):
            for missing in range(many):
                if "KEY" not in row:
                    self.assertEqual(self.verdict(["value"] * missing, row), "depth", row)
            for at in range(many):
                for kind in KINDS:
                    kinds = ["value"] * many
                    kinds[at] = kind
                    if "KEY" not in row and not (row == "BUILD_TUPLE 2" and kind == "cell"):
                        self.assertEqual(self.verdict(kinds, row), None if kind in IS_VALUE else "kind", (row, kinds))

    def test_what_takes_one_kind(self):
        for row, wanted in (
            ("UNARY_NOT", "bool"), ("POP_JUMP_IF_FALSE 0", "bool"), ("POP_JUMP_IF_TRUE 0", "bool"), ("END_FOR", "null"),
            ("CALL_INTRINSIC_1 6", "list"), ("FOR_ITER 1; NOP; END_FOR; POP_TOP", "iterator"),
        ):
            self.assertEqual(self.verdict([], row), "depth")
            for kind in KINDS:
                self.assertEqual(self.verdict([kind], row), None if kind == wanted else "kind", (row, kind))

    def test_sources(self):
        row = "SEND 1; RETURN_VALUE; END_SEND"
        for kind in KINDS:
            self.assertEqual(self.verdict([kind, "value"], row), None if kind == "source" else "kind")
            self.assertEqual(self.verdict(["source", kind], row), None if kind in IS_VALUE else "kind")
        self.assertEqual(self.verdict(["source"], row), "depth")

    def test_any_entries(self):
        for kind in KINDS:
            for row in ("POP_TOP", "COPY 1", "COPY 2; POP_TOP", "SWAP 2"):
                self.assertIsNone(self.verdict([kind, "value"], row))
                self.assertIsNone(self.verdict(["value", kind], row))
        for row, many in (("POP_TOP", 1), ("COPY 1", 1), ("COPY 3", 3), ("SWAP 2", 2), ("SWAP 4", 4)):
            self.assertIsNone(self.verdict(["null"] * many, row))
            self.assertEqual(self.verdict(["null"] * (many - 1), row), "depth")

    def test_the_same_kinds_stay(self):
        for kind in KINDS:
            wanted = {"bool": "UNARY_NOT", "null": "END_FOR", "list": "LIST_EXTEND 1"}.get(kind)
            if wanted is not None:
                rest = "LOAD_CONST 0; LIST_EXTEND 1" if kind == "list" else wanted
                self.assertIsNone(self.verdict([kind], f"COPY 1; {rest}"))
                self.assertIsNone(self.verdict([kind, "value"], f"SWAP 2; {rest}"))
                self.assertIsNone(self.verdict([kind, "value"], f"COPY 2; {rest}"))

    def test_lists_and_dicts_below(self):
        for row, many, wanted in (("LIST_APPEND", 1, "list"), ("LIST_EXTEND", 1, "list"), ("MAP_ADD", 2, "dict"),
                                  ("DICT_MERGE", 1, "dict")):
            for deep in (1, 2, 3):
                for kind in KINDS:
                    kinds = [kind] + ["null"] * (deep - 1) + ["value"] * many
                    self.assertEqual(self.verdict(kinds, f"{row} {deep}"), None if kind == wanted else "kind")
                kinds = [wanted] + ["null"] * (deep - 1) + ["value"] * many
                self.assertEqual(self.verdict(kinds[1:], f"{row} {deep}"), "depth")
                self.assertEqual(self.verdict(kinds[:-1] + ["null"], f"{row} {deep}"), "kind")

    def test_tuples_of_cells(self):
        self.assertIsNone(self.verdict(["cell", "cell"], "BUILD_TUPLE 2"))
        self.assertIsNone(self.verdict([], "BUILD_TUPLE 0"))
        for kinds in (["cell", "value"], ["value", "cell"], ["null", "cell"], ["cell", "null"], ["cells 1", "cell"]):
            self.assertEqual(self.verdict(kinds, "BUILD_TUPLE 2"), "kind")
        self.assertEqual(self.verdict(["cell"], "BUILD_TUPLE 2"), "depth")

    def test_calls(self):
        for kind in KINDS:
            fits = kind in IS_VALUE
            self.assertEqual(self.verdict([kind, "null"], "CALL 0"), None if fits else "kind")
            self.assertEqual(self.verdict(["value", kind], "CALL 0"), None if fits or kind == "null" else "kind")
            self.assertEqual(self.verdict(["value", "null", kind], "CALL 1"), None if fits else "kind")
            self.assertEqual(self.verdict(["value", kind, "value", "value"], "CALL 2"),
                             None if fits or kind == "null" else "kind")
            self.assertEqual(self.verdict(["value", "null", kind], "CALL_FUNCTION_EX 0"), None if fits else "kind")
            self.assertEqual(self.verdict(["value", kind, "value"], "CALL_FUNCTION_EX 0"), None if kind == "null" else "kind")
            self.assertEqual(self.verdict([kind, "null", "value"], "CALL_FUNCTION_EX 0"), None if fits else "kind")
            self.assertEqual(self.verdict(["value", "null", "value", kind], "CALL_FUNCTION_EX 1"),
                             None if kind == "dict" else "kind")
            self.assertEqual(self.verdict(["value", kind, "value", "dict"], "CALL_FUNCTION_EX 1"),
                             None if kind == "null" else "kind")
        for many in (0, 1, 5):
            kinds = ["value", "null"] + ["value"] * many
            self.assertIsNone(self.verdict(kinds, f"CALL {many}"))
            self.assertEqual(self.verdict(kinds[1:], f"CALL {many}"), "depth")
        for many in (0, 1):
            kinds = ["value", "null", "value"] + ["dict"] * many
            self.assertEqual(self.verdict(kinds[1:], f"CALL_FUNCTION_EX {many}"), "depth")
        # An entry that may be a value or none, of a method.
        self.assertIsNone(self.verdict(["value"], "LOAD_ATTR 1; CALL 0"))
        for row in ("LOAD_ATTR 1; CALL_FUNCTION_EX 0", "LOAD_ATTR 1; RETURN_VALUE", "LOAD_ATTR 1; END_FOR",
                    "LOAD_ATTR 1; LOAD_CONST 0; CALL_FUNCTION_EX 0"):
            code = made(f"{SETUP}; LOAD_CONST 0; {row}; RAISE_VARARGS", size=1, constants=CONSTANTS, **FIELDS)
            self.assertEqual(judged(code)[0], "depth" if row.endswith("R 1; CALL_FUNCTION_EX 0") else "kind")

    def test_calls_by_names(self):
        constants = (None, True, 7, "s", ("x",), INNER)
        for kinds, many, due in (
            (["value", "null", "value"], 1, "right"), (["value", "value", "value"], 1, "right"), (["null", "value"], 1, "depth"),
            (["value", "cell", "value"], 1, "kind"), (["null", "null", "value"], 1, "kind"), (["value", "null", "null"], 1, "kind"),
        ):
            begin = "; ".join([SETUP, *[KINDS[kind] for kind in kinds]])
            code = made(f"{begin}; LOAD_CONST 4; CALL_KW {many}; RETURN_VALUE", constants=constants, **FIELDS)
            found = judged(code)
            self.assertEqual(found if found == "right" else found[0], due)
            self.assertEqual(judge_by_the_book.judged(code), found)

    def test_attributes_of_functions(self):
        two = changed(INNER, slots=("p", "x", "y"), kinds=(32, 128, 128), argcount=1)
        constants = CONSTANTS[:5] + (two, INNER)
        make = "LOAD_CONST 5; MAKE_FUNCTION; SET_FUNCTION_ATTRIBUTE 8"
        cells = "LOAD_FAST 1; LOAD_FAST 2; BUILD_TUPLE 2"
        for ahead, rest, due in (
            (cells, "RETURN_VALUE", "right"), ("LOAD_FAST 1; BUILD_TUPLE 1", "RETURN_VALUE", "kind"), ("", "RETURN_VALUE", "depth"),
            ("LOAD_CONST 4", "RETURN_VALUE", "kind"), ("LOAD_FAST 1", "RETURN_VALUE", "kind"),
            ("BUILD_MAP 0; " + cells, "SET_FUNCTION_ATTRIBUTE 2; RETURN_VALUE", "right"),
            ("BUILD_LIST 0; " + cells, "SET_FUNCTION_ATTRIBUTE 2; RETURN_VALUE", "kind"),
            (cells, "SET_FUNCTION_ATTRIBUTE 2; RETURN_VALUE", "depth"),
            ("LOAD_CONST 0; BUILD_TUPLE 1; " + cells, "SET_FUNCTION_ATTRIBUTE 1; RETURN_VALUE", "right"),
            ("BUILD_TUPLE 0; " + cells, "SET_FUNCTION_ATTRIBUTE 1; RETURN_VALUE", "right"),
            ("LOAD_CONST 4; " + cells, "SET_FUNCTION_ATTRIBUTE 1; RETURN_VALUE", "kind"),
            ("LOAD_CONST 0; " + cells, "SET_FUNCTION_ATTRIBUTE 1; RETURN_VALUE", "kind"),
            ("BUILD_TUPLE 0; BUILD_MAP 0; " + cells, "SET_FUNCTION_ATTRIBUTE 2; SET_FUNCTION_ATTRIBUTE 1; RETURN_VALUE", "right"),
        ):
            code = made("; ".join([part for part in (SETUP, ahead, make, rest) if part]), constants=constants, **FIELDS)
            found = judged(code)
            self.assertEqual(found if found == "right" else found[0], due, (ahead, rest))
            self.assertEqual(judge_by_the_book.judged(code), found)

    def test_the_first_from_the_top(self):
        # There is just one offset, and one word for all entries that do not fit.
        self.assertEqual(self.verdict(["null", "null"], "BINARY_OP 0"), "kind")
        self.assertEqual(self.verdict(["null"], "BINARY_OP 0"), "depth")
        self.assertEqual(self.verdict(["cell", "null"], "CALL 0"), "kind")

    def test_loads(self):
        for row, kind in (("LOAD_FAST 0", "value"), ("LOAD_FAST 1", "cell"), ("LOAD_FAST 2", "cell"), ("LOAD_CONST 0", "value"),
                          ("LOAD_CONST 1", "bool"), ("LOAD_CONST 2", "value"), ("LOAD_CONST 4", "tuple"),
                          ("LOAD_DEREF 1", "value"), ("LOAD_FAST_CHECK 0", "value"), ("LOAD_ASSERTION_ERROR", "value"),
                          ("LOAD_BUILD_CLASS", "value"), ("LOAD_GLOBAL 0", "value")):
            if row == "LOAD_FAST 0":
                continue
            self.assertEqual(self.verdict([], f"{row}; UNARY_NOT", "RETURN_VALUE") is None, True)
            code = made(f"{SETUP}; {row}; UNARY_NOT; RETURN_VALUE", constants=CONSTANTS, **FIELDS)
            self.assertEqual(judged(code) == "right", kind == "bool", row)
            code = made(f"{SETUP}; {row}; BUILD_TUPLE 1; POP_TOP; RETURN_CONST 0", constants=CONSTANTS, **FIELDS)
            self.assertEqual(judged(code), "right")
            code = made(f"{SETUP}; {row}; RETURN_VALUE", constants=CONSTANTS, **FIELDS)
            self.assertEqual(judged(code) == "right", kind != "cell", row)


class HandlerTests(WaysTests):
    def handled(self, row, depth, wanted=False, handler="RERAISE", begin="RESUME", **fields):
        rows = f"{begin}; s: {row}; t: RETURN_CONST 0; h: {handler}"
        return made(rows, [("s", "t", "h", depth, wanted)], **fields)

    def test_entries_that_are_not_taken(self):
        for row, most in (
            ("LOAD_NAME 0", 0), ("LOAD_NAME 0; TO_BOOL", 0), ("PUSH_NULL; LOAD_NAME 0", 1),
            ("LOAD_CONST 0; LOAD_CONST 0; BINARY_OP 0", 0), ("PUSH_NULL; LOAD_CONST 0; LOAD_CONST 0; BINARY_OP 0", 1),
            ("LOAD_CONST 0; GET_ITER", 0), ("BUILD_LIST 0; LOAD_CONST 0; LIST_EXTEND 1", 1),
            ("BUILD_MAP 0; LOAD_CONST 0; DICT_MERGE 1", 1), ("LOAD_GLOBAL 1", 0), ("LOAD_CONST 0; LOAD_ATTR 1", 0),
        ):
            # Only the last instruction is under the handler.
            *ahead, last = row.split("; ")
            for depth in range(4):
                rows = "; ".join(["RESUME", *ahead, f"s: {last}", "t: RETURN_CONST 0", "h: RAISE_VARARGS 0"])
                code = made(rows, [("s", "t", "h", depth, False)])
                found = judged(code)
                self.assertEqual(found == "right", depth <= most, (row, depth, found))
                self.assertEqual(judge_by_the_book.judged(code), found)
                if depth > most:
                    self.assertEqual(found[0], "depth")

    def test_entries_on_both_sides(self):
        rows = "RESUME; LOAD_NAME 0; GET_ITER; s: FOR_ITER e; t: RETURN_VALUE; e: END_FOR; POP_TOP; RETURN_CONST 0; h: RAISE_VARARGS 0"
        self.right(rows, [("s", "t", "h", 1, False)])
        self.wrong(("depth", 6), rows, [("s", "t", "h", 2, False)])
        rows = f"{START}; LOAD_NAME 0; GET_YIELD_FROM_ITER; LOAD_CONST 0; s: SEND e; t: RETURN_VALUE; e: END_SEND; RETURN_VALUE; h: RAISE_VARARGS 0"
        rows = rows.replace("LOAD_NAME", "LOAD_GLOBAL")
        self.right(rows, [("s", "t", "h", 1, False)], **GENERATOR)
        found = judged(made(rows, [("s", "t", "h", 2, False)], **GENERATOR))
        self.assertEqual(found[0], "depth")
        # A yield takes none: a value lies there while the frame rests.
        rows = f"{START}; PUSH_NULL; LOAD_CONST 0; s: YIELD_VALUE 0; t: RETURN_VALUE; h: RAISE_VARARGS 0"
        for depth, due in ((0, "right"), (1, "right"), (2, "right"), (3, ("depth", 10))):
            code = made(rows, [("s", "t", "h", depth, False)], **GENERATOR)
            self.assertEqual(judged(code), due)
            self.assertEqual(judge_by_the_book.judged(code), due)

    def test_exceptions_and_what_handles_them(self):
        begin = "RESUME; a: LOAD_NAME 0; b: RETURN_VALUE; h: PUSH_EXC_INFO"
        where = [("a", "b", "h", 0, False)]
        self.right(f"{begin}; LOAD_NAME 0; CHECK_EXC_MATCH; POP_JUMP_IF_FALSE n; POP_TOP; POP_EXCEPT; RETURN_CONST 0; n: RERAISE",
                   where)
        self.right(f"{begin}; POP_TOP; POP_EXCEPT; RETURN_CONST 0", where)
        self.right(f"{begin}; STORE_GLOBAL 0; POP_EXCEPT; RETURN_CONST 0", where)
        for rest, at, word in (
            ("POP_EXCEPT; RETURN_CONST 0", 8, "kind"), ("POP_TOP; POP_TOP; POP_TOP; RETURN_CONST 0", 12, "depth"),
            ("LOAD_NAME 0; SWAP 2; CHECK_EXC_MATCH; RAISE_VARARGS 0", 12, "kind"), ("POP_TOP; RERAISE", 10, "kind"),
            ("POP_TOP; RETURN_VALUE", 10, "kind"), ("PUSH_EXC_INFO; PUSH_EXC_INFO; BUILD_LIST 2; RETURN_VALUE", 12, "kind"),
            ("LOAD_NAME 0; CLEANUP_THROW; RAISE_VARARGS 0", 10, "kind"), ("CLEANUP_THROW; RAISE_VARARGS 0", 8, "depth"),
        ):
            self.wrong((word, at), f"{begin}; {rest}", where)
        self.wrong(("depth", 2), "RESUME; PUSH_EXC_INFO; RETURN_CONST 0", size=1)
        self.wrong(("kind", 4), "RESUME; LOAD_CONST 0; PUSH_EXC_INFO; RETURN_CONST 0", size=1)
        self.wrong(("kind", 4), "RESUME; LOAD_CONST 0; RERAISE", size=1)

    def test_offsets(self):
        begin = "RESUME; a: LOAD_NAME 0; b: RETURN_VALUE; h: "
        with_offset = [("a", "b", "h", 0, True)]
        self.right(f"{begin}RERAISE 1", with_offset)
        self.right(f"{begin}PUSH_EXC_INFO; RERAISE 2", with_offset)
        self.right(f"{begin}RERAISE 0", with_offset)
        self.wrong(("depth", 6), f"{begin}RERAISE 2", with_offset)
        self.wrong(("depth", 6), f"{begin}RERAISE 1", [("a", "b", "h", 0, False)])
        self.wrong(("kind", 8), f"{begin}PUSH_EXC_INFO; RERAISE 1", with_offset)
        self.wrong(("kind", 8), f"{begin}POP_TOP; RETURN_VALUE", with_offset)
        self.wrong(("kind", 10), f"{begin}COPY 2; COPY 2; RERAISE 2".replace("COPY 2; COPY 2", "PUSH_NULL; COPY 2"), with_offset)

    def test_exits(self):
        begin = "RESUME; LOAD_NAME 0; a: LOAD_NAME 0; b: RETURN_VALUE; h: "
        rest = "WITH_EXCEPT_START; TO_BOOL; POP_TOP; RERAISE 2"
        self.right(f"{begin}PUSH_EXC_INFO; {rest}", [("a", "b", "h", 1, True)])
        self.wrong(("depth", 10), f"{begin}PUSH_EXC_INFO; {rest}", [("a", "b", "h", 1, False)])
        self.wrong(("depth", 10), f"{begin}PUSH_EXC_INFO; {rest}", [("a", "b", "h", 0, True)])
        self.wrong(("kind", 10), f"{begin}PUSH_NULL; {rest}", [("a", "b", "h", 1, True)])
        begin = begin.replace("LOAD_NAME 0; a:", "LOAD_GLOBAL 1; a:")
        self.wrong(("kind", 18), f"{begin}PUSH_EXC_INFO; {rest}", [("a", "b", "h", 2, True)])

    def test_the_kinds_below_reach_the_handler(self):
        rows = "RESUME; BUILD_LIST 0; LOAD_CONST 1; s: LOAD_NAME 0; t: RETURN_VALUE; h: POP_TOP; {}; RETURN_CONST 0"
        self.right(rows.format("UNARY_NOT; LIST_APPEND 1"), [("s", "t", "h", 2, False)])
        self.right(rows.format("LOAD_CONST 0; LIST_APPEND 1"), [("s", "t", "h", 1, False)])
        self.wrong(("kind", 14), rows.format("LOAD_CONST 0; LIST_APPEND 1"), [("s", "t", "h", 2, False)])

    def test_quiet_words_lead_to_no_handler(self):
        for row in ("NOP", "LOAD_CONST 0", "PUSH_NULL", "BUILD_TUPLE 0", "BUILD_LIST 0", "LOAD_BUILD_CLASS",
                    "LOAD_ASSERTION_ERROR", "LOAD_CONST 0; STORE_GLOBAL 0", "LOAD_CONST 0; POP_JUMP_IF_NONE 0",
                    "LOAD_CONST 0; LOAD_CONST 0; IS_OP 0", "LOAD_CONST 0; COPY 1; SWAP 2", "LOAD_CONST 0; STORE_NAME 0",
                    "LOAD_CONST 1; UNARY_NOT; POP_JUMP_IF_TRUE 0", "BUILD_LIST 0; LOAD_CONST 0; LIST_APPEND 1",
                    "BUILD_LIST 0; CALL_INTRINSIC_1 6"):
            # What is wrong in the handler is never looked at.
            self.right(f"RESUME; s: {row}; t: RETURN_CONST 0; h: END_FOR; RETURN_VALUE", [("s", "t", "h", 9, False)])
        for row in ("LOAD_NAME 0", "LOAD_CONST 0; TO_BOOL", "LOAD_GLOBAL 0", "BUILD_MAP 0", "LOAD_CONST 0; GET_ITER",
                    "DELETE_GLOBAL 0", "LOAD_CONST 0; UNARY_NEGATIVE", "LOAD_CONST 0; UNPACK_SEQUENCE 0", "RAISE_VARARGS 0"):
            found = judged(made(f"RESUME; s: {row}; t: RETURN_CONST 0; h: END_FOR; RETURN_VALUE", [("s", "t", "h", 9, False)]))
            self.assertEqual(found[0], "depth")


class MeetingTests(WaysTests):
    def joined(self, one, other, rest):
        rows = f"{SETUP}; LOAD_GLOBAL 0; POP_JUMP_IF_NONE o; {one}; JUMP_FORWARD e; o: {other}; e: {rest}"
        code = made(rows, constants=CONSTANTS, **FIELDS)
        found = judged(code)
        self.assertEqual(judge_by_the_book.judged(code), found)
        return found

    def test_kinds_that_meet(self):
        values = [kind for kind in KINDS if kind in IS_VALUE]
        for one in KINDS:
            for other in KINDS:
                found = self.joined(KINDS[one], KINDS[other], "POP_TOP; RETURN_CONST 0")
                meet = one == other or all(kind in values or kind == "null" for kind in (one, other))
                self.assertEqual(found if meet else found[0], "right" if meet else "meet", (one, other))
                if meet and one != other and "null" not in (one, other):
                    # Unlike kinds of values are values, and no more.
                    self.assertEqual(self.joined(KINDS[one], KINDS[other], "RETURN_VALUE"), "right")
                    for rest in ("UNARY_NOT; RETURN_VALUE", "LOAD_CONST 0; LIST_APPEND 1; RETURN_CONST 0"):
                        self.assertEqual(self.joined(KINDS[one], KINDS[other], rest)[0], "kind")

    def test_null_and_values(self):
        for kind in IS_VALUE:
            for one, other in ((kind, "null"), ("null", kind)):
                one, other = (f"LOAD_CONST 0; {KINDS[held]}" for held in (one, other))
                self.assertEqual(self.joined(one, other, "CALL 0; RETURN_VALUE"), "right")
                self.assertEqual(self.joined(one, other, "RETURN_VALUE")[0], "kind")
                self.assertEqual(self.joined(one, other, "END_FOR; RETURN_VALUE")[0], "kind")
                self.assertEqual(self.joined(one, other, "LOAD_CONST 0; CALL_FUNCTION_EX 0; RETURN_VALUE")[0], "kind")

    def test_numbers_of_entries(self):
        found = self.joined("LOAD_CONST 0", "LOAD_CONST 0; LOAD_CONST 0", "POP_TOP; RETURN_CONST 0")
        # The branch lies ahead of the other one; what reaches its end again is the row ahead of the label.
        self.assertEqual(found[0], "meet")
        rows = "RESUME; a: LOAD_CONST 0; LOAD_CONST 0; POP_JUMP_IF_NONE b; JUMP_BACKWARD a; b: RETURN_VALUE"
        self.wrong(("meet", 10), rows)
        rows = "RESUME; LOAD_CONST 0; POP_JUMP_IF_NONE b; LOAD_CONST 0; b: RETURN_CONST 0"
        self.wrong(("meet", 8), rows)
        rows = "RESUME; LOAD_CONST 0; POP_JUMP_IF_NONE b; JUMP_FORWARD c; b: LOAD_CONST 0; c: RETURN_CONST 0"
        self.wrong(("meet", 10), rows)

    def test_loops(self):
        # In the second turn the entry is a value, no bool any more.
        rows = "RESUME; LOAD_CONST 1; a: {}; LOAD_NAME 0; POP_JUMP_IF_NONE e; POP_TOP; LOAD_CONST {}; JUMP_BACKWARD a; e: RETURN_VALUE"
        self.right(rows.format("UNARY_NOT", 1))
        self.right(rows.format("NOP", 0))
        self.wrong(("kind", 4), rows.format("UNARY_NOT", 0))
        rows = "RESUME; PUSH_NULL; a: END_FOR; LOAD_CONST 0; JUMP_BACKWARD a"
        self.wrong(("kind", 4), rows)
        rows = "RESUME; LOAD_CONST 0; a: POP_TOP; LOAD_BUILD_CLASS; JUMP_BACKWARD a"
        self.right(rows)

    def test_handlers_that_many_lead_to(self):
        rows = "RESUME; {}; s: LOAD_NAME 0; t: POP_TOP; POP_TOP; {}; u: LOAD_NAME 0; v: RETURN_VALUE; h: POP_TOP; {}; RETURN_CONST 0"
        where = [("s", "t", "h", 1, False), ("u", "v", "h", 1, False)]
        self.right(rows.format("LOAD_CONST 1", "LOAD_CONST 1", "UNARY_NOT"), where)
        self.wrong(("kind", 18), rows.format("LOAD_CONST 1", "LOAD_CONST 0", "UNARY_NOT"), where)
        self.right(rows.format("LOAD_CONST 1", "LOAD_CONST 0", "POP_TOP"), where)
        self.right(rows.format("PUSH_NULL", "LOAD_CONST 0", "POP_TOP"), where)
        self.wrong(("meet", 12), rows.format("LOAD_CONST 1", "LOAD_CONST 0", "POP_TOP"), [where[0], ("u", "v", "h", 0, False)])
        self.wrong(("meet", 12), rows.format("LOAD_CONST 1", "LOAD_CONST 0", "POP_TOP"), [where[0], ("u", "v", "h", 1, True)])

    def test_jumps_that_would_never_be_made(self):
        self.wrong(("depth", 12), "RESUME; LOAD_CONST 1; POP_JUMP_IF_FALSE a; LOAD_CONST 0; RETURN_VALUE; a: RETURN_VALUE")

    def test_what_no_way_reaches(self):
        self.right("RESUME; RETURN_CONST 0; END_FOR; UNARY_NOT; RETURN_VALUE")

    def test_what_is_looked_at_first(self):
        # Both branches are wrong; the one with the least offset is looked at first, whoever leads to it.
        rows = "RESUME; LOAD_NAME 0; POP_JUMP_IF_NONE o; END_FOR; RETURN_CONST 0; o: UNARY_NOT; RETURN_VALUE"
        self.wrong(("depth", 8), rows)
        rows = "RESUME; LOAD_NAME 0; POP_JUMP_IF_NONE o; RETURN_CONST 0; x: UNARY_NOT; RETURN_VALUE; o: LOAD_NAME 0; POP_JUMP_IF_NONE z; JUMP_BACKWARD x; z: END_FOR; RETURN_CONST 0"
        # The jump back leads to a lower offset than its neighbour has.
        self.wrong(("depth", 10), rows)
        rows = "RESUME; JUMP_FORWARD o; x: UNARY_NOT; RETURN_VALUE; o: LOAD_NAME 0; POP_JUMP_IF_NONE z; JUMP_BACKWARD x; z: RETURN_CONST 0"
        self.wrong(("depth", 4), rows)
        # A handler that lies ahead is looked at ahead of the next instruction.
        rows = "RESUME; JUMP_FORWARD a; h: END_FOR; RETURN_CONST 0; a: LOAD_NAME 0; UNARY_NOT; b: RETURN_VALUE"
        self.wrong(("kind", 4), rows, [("a", "b", "h", 0, False)])
        rows = "RESUME; JUMP_FORWARD a; h: POP_TOP; RETURN_CONST 0; a: LOAD_NAME 0; UNARY_NOT; b: RETURN_VALUE"
        self.wrong(("kind", 10), rows, [("a", "b", "h", 0, False)])


class BoundTests(WaysTests):
    fields = {"flags": 3, "argcount": 1, "slots": ("p", "a", "b"), "kinds": (32, 32, 32)}

    def bound(self, rows, at=None, handlers=()):
        if at is None:
            self.right(f"RESUME; {rows}", handlers, **self.fields)
        else:
            self.wrong(("bound", at), f"RESUME; {rows}", handlers, **self.fields)

    def test_plain_ways(self):
        self.bound("LOAD_FAST 0; RETURN_VALUE")
        self.bound("LOAD_FAST 1; RETURN_VALUE", 2)
        self.bound("LOAD_CONST 0; STORE_FAST 1; LOAD_FAST 1; RETURN_VALUE")
        self.bound("LOAD_FAST_CHECK 1; POP_TOP; LOAD_FAST 1; RETURN_VALUE")
        self.bound("LOAD_FAST_CHECK 1; RETURN_VALUE")
        self.bound("DELETE_FAST 0; LOAD_FAST 0; RETURN_VALUE", 4)
        self.bound("LOAD_CONST 0; STORE_FAST 1; DELETE_FAST 1; LOAD_FAST 1; RETURN_VALUE", 8)
        self.bound("DELETE_FAST 1; LOAD_CONST 0; STORE_FAST 1; LOAD_FAST 1; RETURN_VALUE")

    def test_pairs(self):
        self.bound("LOAD_FAST_LOAD_FAST 0; BUILD_TUPLE 2; RETURN_VALUE")
        self.bound("LOAD_FAST_LOAD_FAST 1; BUILD_TUPLE 2; RETURN_VALUE", 2)
        self.bound("LOAD_FAST_LOAD_FAST 16; BUILD_TUPLE 2; RETURN_VALUE", 2)
        self.bound("LOAD_CONST 0; STORE_FAST_LOAD_FAST 17; RETURN_VALUE")
        self.bound("LOAD_CONST 0; STORE_FAST_LOAD_FAST 18; RETURN_VALUE", 4)
        self.bound("LOAD_CONST 0; STORE_FAST_LOAD_FAST 16; POP_TOP; LOAD_FAST 1; RETURN_VALUE")
        self.bound("LOAD_CONST 0; LOAD_CONST 0; STORE_FAST_STORE_FAST 18; LOAD_FAST_LOAD_FAST 18; BUILD_TUPLE 2; RETURN_VALUE")
        self.bound("LOAD_CONST 0; LOAD_CONST 0; STORE_FAST_STORE_FAST 17; LOAD_FAST 2; RETURN_VALUE", 8)

    def test_branches_and_loops(self):
        begin = "LOAD_FAST 0; POP_JUMP_IF_NONE e; LOAD_CONST 0; STORE_FAST 1; "
        self.bound(begin + "LOAD_FAST 1; RETURN_VALUE; e: RETURN_CONST 0")
        self.bound(begin + "e: LOAD_FAST 1; RETURN_VALUE", 12)
        self.bound(begin + "RETURN_CONST 0; e: LOAD_FAST 1; RETURN_VALUE", 14)
        self.bound("LOAD_CONST 0; STORE_FAST 1; s: LOAD_FAST 1; POP_TOP; DELETE_FAST 1; JUMP_BACKWARD s", 6)
        self.bound("LOAD_CONST 0; STORE_FAST 1; s: LOAD_FAST 1; POP_TOP; JUMP_BACKWARD s")
        self.bound("JUMP_FORWARD t; s: LOAD_FAST 1; RETURN_VALUE; t: LOAD_CONST 0; STORE_FAST 1; JUMP_BACKWARD s")

    def test_handlers(self):
        rows = "LOAD_CONST 0; {}; a: {}; b: RETURN_CONST 0; h: POP_TOP; LOAD_FAST 1; RETURN_VALUE"
        where = [("a", "b", "h", 0, False)]
        self.bound(rows.format("STORE_FAST 1", "LOAD_GLOBAL 0"), None, where)
        # An exception comes as the names were ahead of the instruction.
        self.bound("LOAD_CONST 0; a: STORE_FAST 1; LOAD_GLOBAL 0; b: RETURN_VALUE; h: POP_TOP; LOAD_FAST 1; RETURN_VALUE",
                   None, where)
        self.bound("a: LOAD_GLOBAL 0; STORE_FAST 1; b: RETURN_CONST 0; h: POP_TOP; LOAD_FAST 1; RETURN_VALUE", 18, where)
        self.bound("LOAD_CONST 0; STORE_FAST 1; a: DELETE_FAST 1; b: RETURN_CONST 0; h: POP_TOP; LOAD_FAST 1; RETURN_VALUE",
                   None, where)
        self.bound("a: LOAD_FAST_CHECK 1; b: RETURN_CONST 0; h: POP_TOP; LOAD_FAST 1; RETURN_VALUE", 8, where)

    def test_what_no_way_reaches(self):
        self.bound("RETURN_CONST 0; LOAD_FAST 1; RETURN_VALUE")
        self.bound("a: NOP; b: RETURN_CONST 0; h: POP_TOP; LOAD_FAST 1; RETURN_VALUE", None, [("a", "b", "h", 0, False)])

    def test_the_least_offset(self):
        self.bound("LOAD_FAST 0; POP_JUMP_IF_NONE e; LOAD_FAST 2; RETURN_VALUE; e: LOAD_FAST 1; RETURN_VALUE", 8)
        self.bound("LOAD_FAST 1; POP_TOP; LOAD_FAST 1; RETURN_VALUE", 2)

    def test_cells_are_not_meant(self):
        fields = {"flags": 3, "slots": ("a", "b"), "kinds": (64, 128)}
        self.right("COPY_FREE_VARS 1; MAKE_CELL 0; RESUME; LOAD_FAST 0; LOAD_FAST 1; BUILD_TUPLE 2; POP_TOP; RETURN_CONST 0", **fields)
        self.right("COPY_FREE_VARS 1; MAKE_CELL 0; RESUME; LOAD_DEREF 0; RETURN_VALUE", **fields)

    def test_parameters_of_all_sorts(self):
        fields = {"flags": 15, "argcount": 1, "onlycount": 1, "slots": ("a", "b", "c", "d", "e"), "kinds": (32,) * 5}
        self.right("RESUME; LOAD_FAST 1; LOAD_FAST 2; LOAD_FAST 3; BUILD_TUPLE 3; RETURN_VALUE", **fields)
        self.wrong(("bound", 2), "RESUME; LOAD_FAST 4; RETURN_VALUE", **fields)

    def test_the_ways_go_ahead_of_it(self):
        self.wrong(("depth", 6), "RESUME; LOAD_FAST 1; POP_TOP; RETURN_VALUE", **self.fields)


class SizeTests(WaysTests):
    def test_at_least_one(self):
        self.assertEqual(self.right("RESUME; RETURN_CONST 0").stacksize, 1)
        for size in (0, 2, 1000):
            self.wrong(("size", 0), changed(made("RESUME; RETURN_CONST 0"), stacksize=size))

    def test_one_greater_and_one_less(self):
        for rows, handlers, due in (
            ("LOAD_CONST 0; LOAD_CONST 0; LOAD_CONST 0; BUILD_TUPLE 3; RETURN_VALUE", [], 3),
            ("LOAD_CONST 0; UNPACK_SEQUENCE 4; BUILD_TUPLE 4; RETURN_VALUE", [], 4),
            ("LOAD_NAME 0; GET_ITER; FOR_ITER e; RETURN_VALUE; e: END_FOR; POP_TOP; RETURN_CONST 0", [], 2),
            ("LOAD_CONST 0; PUSH_NULL; a: LOAD_NAME 0; b: RETURN_VALUE; h: POP_TOP; RETURN_CONST 0", [("a", "b", "h", 2, True)], 4),
            ("a: LOAD_NAME 0; b: RETURN_VALUE; h: PUSH_EXC_INFO; RERAISE", [("a", "b", "h", 0, True)], 3),
            ("LOAD_NAME 0; POP_JUMP_IF_NONE e; LOAD_CONST 0; LOAD_CONST 0; RETURN_VALUE; e: RETURN_CONST 0", [], 2),
            ("RETURN_CONST 0; LOAD_CONST 0; LOAD_CONST 0; RETURN_VALUE", [], 1),
        ):
            code = self.right(f"RESUME; {rows}", handlers)
            self.assertEqual(code.stacksize, due)
            for size in (due - 1, due + 1):
                self.wrong(("size", 0), changed(code, stacksize=size))

    def test_the_locals_go_ahead_of_it(self):
        self.wrong(("bound", 2), "RESUME; LOAD_FAST 0; RETURN_VALUE", flags=3, slots=("a",), kinds=(32,), size=9)


class ChangedCodesTests(JudgedTests):
    def changes(self, code, pick):
        """A code with something changed at random."""
        data = list(code.code)
        match pick.randint(0, 7):
            case 0:
                at = pick.randrange(len(data))
                data[at] = pick.choice((0, 1, 2, 3, 71, 149, (data[at] + 1) % 256, max(0, data[at] - 1)))
            case 1:
                at = 2 * pick.randrange((len(data) + 1) // 2)
                words = [word for word in NUMBERS if CACHES.get(word, 0) == CACHES.get(WORDS.get(data[at]), 0)]
                data[at] = NUMBERS[pick.choice(words)]
            case 2:
                at = 2 * pick.randrange((len(data) + 1) // 2)
                del data[at:at + 2]
            case 3:
                at = 2 * pick.randint(0, len(data) // 2)
                data[at:at] = [pick.choice(list(WORDS)), pick.choice((0, 0, 1, 2))]
            case 4:
                rows = [list(row) for row in exception_rows(code)]
                if rows:
                    row = pick.choice(rows)
                    at = pick.randint(0, 4)
                    row[at] = {3: max(0, row[3] + pick.choice((-1, 1))), 4: not row[4]}.get(at, 2 * pick.randint(0, len(data) // 2))
                    if all(row[1] >= row[0] for row in rows):
                        return changed(code, handlers=exception_bytes(rows))
            case 5:
                kinds = list(code.kinds)
                if kinds:
                    kinds[pick.randrange(len(kinds))] = pick.choice((32, 64, 96, 128))
                return changed(code, kinds=kinds, flags=pick.choice((code.flags, code.flags, 0, 3, 35)))
            case 6:
                constants = list(code.constants)
                pick.shuffle(constants)
                return changed(code, constants=constants)
            case 7:
                return changed(code, stacksize=code.stacksize + pick.choice((-1, 1)))
        return changed(code, code=data) if data else code

    def test_the_first_fault_is_told(self):
        pick = numbers(81)
        words = {}
        for _ in range(60):
            try:
                codes = codes_in(compiled(Maker(pick, 25).program(), pick.random() < 0.5))
            except NoProgram:
                continue
            for _ in range(40):
                code = pick.choice(codes)
                try:
                    for _ in range(pick.choice((1, 1, 2, 3))):
                        code = self.changes(code, pick)
                except Exception as error:
                    # What has been changed may have no table any more.
                    self.assertEqual(type(error).__name__, "NoTable")
                    continue
                due = judge_by_the_book.judged(code)
                self.assertEqual(judged(code), due)
                words[due if due == "right" else due[0]] = True
        self.assertGreaterEqual(len(words), 11, words)

    def test_few_calls_for_each_instruction(self):
        body = [assign(name(f"a{at % 7}"), ("BinOp", name("b"), "+", ("IfExp", name("c"), constant(at), name("d"))), at + 1)
                for at in range(60)]
        code = compiled(body)
        found = []
        sys.setprofile(lambda frame, event, _: found.append(event) if event in ("call", "c_call") else None)
        try:
            self.assertEqual(judged(code), "right")
        finally:
            sys.setprofile(None)
        self.assertLess(len(found), 30 * len(as_words(code.code)))


class TimeTests(unittest.TestCase):
    def test_the_time_grows_no_faster_than_the_code(self):
        def calls(times):
            rows = ["RESUME"] + [f"s{at}: LOAD_NAME 0; POP_JUMP_IF_NONE e{at}; LOAD_NAME 1; POP_TOP; JUMP_BACKWARD s{at}; e{at}: NOP"
                                 for at in range(times)]
            code = made("; ".join([*rows, "h: RETURN_CONST 0"]), size=1)
            found = []
            sys.setprofile(lambda frame, event, _: found.append(event) if event in ("call", "c_call") else None)
            try:
                judged(code)
            finally:
                sys.setprofile(None)
            return len(found)
        self.assertLess(calls(120), 4.6 * calls(30))

    def test_what_is_no_code_is_refused(self):
        self.assertIsInstance(made("RESUME; RETURN_CONST 0"), Code)


if __name__ == "__main__":
    unittest.main()
