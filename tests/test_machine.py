"""The machine in codes that no tree has: put together row by row, and compiled ones with something changed."""

import random
import signal
import unittest

from codewalk.assembly import compiled
from codewalk.codes import Code
from codewalk.errors import NoCode, NoProgram
from codewalk.judging import judged
from codewalk.machine import run
from codewalk.marshalled import read, written
from codewalk.tables import exception_bytes, exception_rows, line_bytes
from codewalk.telling import bytes_of, instructions
from tests.codes import Text, changed, codes_in, made
from tests.opcodes import CACHES
from tests.runs import RunMaker

NAMES = ("tell", "n", "m", "KeyError", "list")


class MachineTests(unittest.TestCase):
    def log(self, text, handlers=(), lines=None, most=100, **fields):
        """The log and the outcome of a code that is right, the begin and the end of the frame left out."""
        code = made(text, handlers, lines, **{"names": NAMES, **fields})
        for inner in codes_in(code):
            self.assertEqual(judged(inner), "right", text)
        found, outcome = run(code, most)
        self.assertEqual(run(read(written(code)), most), (found, outcome))
        self.assertEqual(found[0], ("call", "f"))
        return [entry for entry in found[1:] if entry[0] != "line"], outcome

    def tells(self, text, *due, **fields):
        """Compares what is told, an entry of one value as this."""
        found, self.outcome = self.log(text, **fields)
        told = [entry[1] if len(entry) == 2 else entry[1:] for entry in found if entry[0] == "tell"]
        self.assertEqual(repr(told), repr(list(due)), text)

    def tell(self, rows, many=1):
        """The text of a code that tells what the rows leave on the stack."""
        return f"RESUME; LOAD_GLOBAL 1; {rows}; CALL {many}; RETURN_VALUE"

    def function(self, text, **fields):
        return made(text, **{"flags": 3, "path": "g", "names": NAMES, **fields})


class RowTests(MachineTests):
    constants = (None, True, 7, "s", (1, 2), 0, 5, ("a", "b"), "ab")

    def rows(self, rows, due, many=1):
        self.tells(self.tell(rows, many), due, constants=self.constants)

    def test_entries(self):
        self.rows("LOAD_CONST 2; LOAD_CONST 3; SWAP 2; POP_TOP", "s")
        self.rows("LOAD_CONST 2; LOAD_CONST 3; LOAD_CONST 6; COPY 3", (7, "s", 5, 7), 4)
        self.rows("LOAD_CONST 2; LOAD_CONST 3; LOAD_CONST 6; SWAP 3", (5, "s", 7), 3)
        self.rows("PUSH_NULL; LOAD_CONST 2; SWAP 2; POP_TOP", 7)
        self.rows("LOAD_CONST 2; PUSH_NULL; END_FOR", 7)
        self.rows("LOAD_CONST 2; LOAD_CONST 3; END_SEND", "s")
        self.rows("NOP; LOAD_CONST 2; NOP", 7)

    def test_rows_and_dicts(self):
        self.rows("LOAD_CONST 2; LOAD_CONST 3; BUILD_TUPLE 2", ("tuple", 7, "s"))
        self.rows("BUILD_TUPLE 0", ("tuple",))
        self.rows("LOAD_CONST 2; BUILD_LIST 1; LOAD_CONST 4; LIST_EXTEND 1; LOAD_CONST 3; LIST_APPEND 1", ("list", 7, 1, 2, "s"))
        self.rows("BUILD_LIST 0; LOAD_CONST 2; LOAD_CONST 3; LIST_APPEND 2", (("list", "s"), 7), 2)
        self.rows("LOAD_CONST 2; LOAD_CONST 3; BUILD_MAP 1; LOAD_CONST 5; LOAD_CONST 6; MAP_ADD 1", ("dict", (7, "s"), (0, 5)))
        self.rows("LOAD_CONST 2; LOAD_CONST 3; LOAD_CONST 7; BUILD_CONST_KEY_MAP 2", ("dict", ("a", 7), ("b", "s")))
        self.rows("BUILD_MAP 0; LOAD_CONST 1; LOAD_CONST 2; LOAD_CONST 3; BUILD_MAP 1; DICT_MERGE 2", (("dict", (7, "s")), True), 2)
        self.rows("LOAD_CONST 2; BUILD_LIST 1; CALL_INTRINSIC_1 6", ("tuple", 7))
        self.rows("LOAD_CONST 8; UNPACK_SEQUENCE 2", ("b", "a"), 2)
        self.rows("LOAD_CONST 4; UNPACK_EX 1", (("list", 2), 1), 2)
        self.rows("LOAD_CONST 4; UNPACK_EX 256", (2, ("list", 1)), 2)

    def test_operations(self):
        self.rows("LOAD_CONST 2; LOAD_CONST 6; BINARY_OP 6", 2)
        self.rows("LOAD_CONST 2; LOAD_CONST 6; BINARY_OP 23", 2)
        self.rows("BUILD_LIST 0; COPY 1; LOAD_CONST 4; BINARY_OP 13", (("list", 1, 2), ("list", 1, 2)), 2)
        self.rows("BUILD_LIST 0; COPY 1; LOAD_CONST 1; BUILD_LIST 1; BINARY_OP 0", (("list",), ("list", True)), 2)
        for argument, due in ((2, False), (18, False), (132, True), (148, True), (72, False), (119, True)):
            self.rows(f"LOAD_CONST 2; LOAD_CONST 6; COMPARE_OP {argument}", due)
        self.rows("LOAD_CONST 2; LOAD_CONST 4; CONTAINS_OP 0", False)
        self.rows("LOAD_CONST 2; LOAD_CONST 4; CONTAINS_OP 1", True)
        self.rows("LOAD_CONST 0; COPY 1; IS_OP 0", True)
        self.rows("LOAD_CONST 0; LOAD_CONST 1; IS_OP 1", True)
        self.rows("LOAD_CONST 2; TO_BOOL; UNARY_NOT", False)
        self.rows("LOAD_CONST 2; UNARY_NEGATIVE; UNARY_INVERT", 6)
        self.rows("LOAD_CONST 8; LOAD_CONST 5; BINARY_SUBSCR", "a")
        self.rows("LOAD_CONST 8; LOAD_CONST 0; LOAD_CONST 1; BINARY_SLICE", "a")
        self.rows("BUILD_LIST 0; LOAD_CONST 4; COPY 2; LOAD_CONST 0; LOAD_CONST 0; STORE_SLICE", ("list", 1, 2))
        self.rows("BUILD_MAP 0; LOAD_CONST 2; COPY 2; LOAD_CONST 3; STORE_SUBSCR", ("dict", ("s", 7)))
        self.rows("LOAD_CONST 2; BUILD_LIST 1; COPY 1; LOAD_CONST 5; DELETE_SUBSCR", ("list",))
        self.rows("LOAD_ASSERTION_ERROR", ("class", "AssertionError"))
        self.rows("LOAD_BUILD_CLASS", ("builtin", "__build_class__"))
        self.rows("LOAD_CONST 4; GET_ITER", ("iterator",))

    def test_calls(self):
        # Behind an entry that is no NULL.
        self.tells("RESUME; LOAD_GLOBAL 0; LOAD_CONST 2; LOAD_CONST 3; CALL 1; RETURN_VALUE", (7, "s"))
        self.tells("RESUME; LOAD_GLOBAL 0; LOAD_CONST 0; CALL 0; RETURN_VALUE", None)
        self.tells("RESUME; LOAD_GLOBAL 1; LOAD_CONST 4; CALL_FUNCTION_EX 0; RETURN_VALUE", (1, 2))
        self.tells("RESUME; LOAD_GLOBAL 1; LOAD_CONST 3; BUILD_MAP 0; CALL_FUNCTION_EX 1; RETURN_VALUE", "s")
        code = self.function("RESUME; LOAD_GLOBAL 1; LOAD_FAST_LOAD_FAST 1; LOAD_FAST 2; CALL 3; RETURN_VALUE", flags=11, argcount=2, slots=("a", "b", "k"), kinds=(32,) * 3)
        begin = "RESUME; LOAD_CONST 0; MAKE_FUNCTION; PUSH_NULL; LOAD_CONST 1; LOAD_CONST 2; LOAD_CONST 3;"
        for names, many, due in ((("b", "x"), 3, (1, 2, ("dict", ("x", 3)))), (("b", "a", "x"), 3, (2, 1, ("dict", ("x", 3)))), (("y", "x"), 4, "TypeError")):
            rows = begin if many == 3 else begin.replace("PUSH_NULL;", "LOAD_CONST 1;")
            self.tells(f"{rows} LOAD_CONST 4; CALL_KW 3; RETURN_VALUE", *([due] if many == 3 else [(1, 1, ("dict", ("y", 2), ("x", 3)))]), constants=(code, 1, 2, 3, names))

    def test_functions_and_their_attributes(self):
        inner = self.function("COPY_FREE_VARS 1; RESUME; LOAD_GLOBAL 1; LOAD_FAST 0; LOAD_FAST 1; LOAD_DEREF 2; CALL 3; RETURN_VALUE", argcount=1, onlycount=1, slots=("a", "k", "c"),
                              kinds=(32, 32, 128), path="h")
        outer = self.function("MAKE_CELL 0; RESUME; LOAD_CONST 1; LOAD_CONST 2; BUILD_MAP 1; LOAD_CONST 3; BUILD_TUPLE 1; SWAP 2; LOAD_FAST 0; BUILD_TUPLE 1; LOAD_CONST 0; MAKE_FUNCTION; "
                              "SET_FUNCTION_ATTRIBUTE 8; SET_FUNCTION_ATTRIBUTE 2; SET_FUNCTION_ATTRIBUTE 1; LOAD_CONST 4; STORE_DEREF 0; PUSH_NULL; CALL 0; RETURN_VALUE", slots=("x",), kinds=(64,),
                              constants=(inner, "k", 20, 10, 30))
        self.tells("RESUME; LOAD_CONST 0; MAKE_FUNCTION; PUSH_NULL; CALL 0; RETURN_VALUE", (10, 20, 30), constants=(outer,))

    def test_functions_without_flags(self):
        # Called as a function, its names are a new dict; made a class of, they are its attributes.
        body = made("RESUME; LOAD_CONST 0; STORE_NAME 1; LOAD_GLOBAL 1; LOAD_NAME 1; LOAD_NAME 2; CALL 2; RETURN_VALUE", path="g", names=NAMES, constants=(9,))
        self.tells("RESUME; LOAD_CONST 2; STORE_NAME 2; LOAD_CONST 1; MAKE_FUNCTION; PUSH_NULL; CALL 0; POP_TOP; LOAD_NAME 1; RETURN_VALUE", (9, 7), constants=(None, body, 7))
        self.assertEqual(self.outcome[1], "NameError")
        self.tells("RESUME; LOAD_CONST 2; STORE_NAME 2; LOAD_BUILD_CLASS; PUSH_NULL; LOAD_CONST 1; MAKE_FUNCTION; LOAD_CONST 3; CALL 2; LOAD_ATTR 2; LOAD_GLOBAL 0; SWAP 2; CALL 0; RETURN_VALUE",
                   (9, 7), 9, constants=(None, body, 7, "C"))

    def test_what_the_maker_of_classes_refuses(self):
        body, plain = made("RESUME; RETURN_CONST 0", path="g"), self.function("RESUME; RETURN_CONST 0", constants=(None,))
        for rows in ("LOAD_CONST 1; MAKE_FUNCTION; LOAD_CONST 0; CALL 2", "LOAD_CONST 2; MAKE_FUNCTION; LOAD_CONST 3; CALL 2", "LOAD_CONST 1; MAKE_FUNCTION; CALL 1", "CALL 0",
                     "LOAD_CONST 3; LOAD_CONST 3; CALL 2", "LOAD_CONST 1; MAKE_FUNCTION; LOAD_CONST 3; LOAD_CONST 4; CALL_KW 2"):
            found, outcome = self.log(f"RESUME; LOAD_BUILD_CLASS; PUSH_NULL; {rows}; RETURN_VALUE", constants=(None, body, plain, "C", ("name",)))
            self.assertEqual((found, outcome[1]), ([("leave", "TypeError")], "TypeError"))

    def test_names(self):
        self.tells("RESUME; LOAD_CONST 2; STORE_GLOBAL 1; LOAD_GLOBAL 1; LOAD_NAME 1; CALL 1; POP_TOP; DELETE_GLOBAL 1; LOAD_NAME 1; RETURN_VALUE", 7)
        self.assertEqual(self.outcome[1], "NameError")
        for row in ("DELETE_NAME 1", "DELETE_GLOBAL 1", "LOAD_GLOBAL 2; POP_TOP"):
            self.assertEqual(self.log(f"RESUME; {row}; RETURN_CONST 0")[1][1], "NameError")

    def test_pairs(self):
        # The first of the stores takes the top.
        code = self.function("RESUME; LOAD_FAST_LOAD_FAST 1; STORE_FAST_STORE_FAST 1; LOAD_CONST 0; STORE_FAST_LOAD_FAST 34; STORE_FAST 2; LOAD_GLOBAL 1; LOAD_FAST_LOAD_FAST 1; "
                             "LOAD_FAST 2; CALL 3; RETURN_VALUE", argcount=2, slots=("a", "b", "c"), kinds=(32,) * 3, constants=(5,))
        self.tells("RESUME; LOAD_CONST 0; MAKE_FUNCTION; PUSH_NULL; LOAD_CONST 1; LOAD_CONST 2; CALL 2; RETURN_VALUE", (2, 1, 5), constants=(code, 1, 2))

    def test_jumps(self):
        for word, constant, jumps in (("POP_JUMP_IF_TRUE", 1, True), ("POP_JUMP_IF_FALSE", 1, False), ("POP_JUMP_IF_NONE", 0, True), ("POP_JUMP_IF_NONE", 2, False),
                                      ("POP_JUMP_IF_NOT_NONE", 0, False), ("POP_JUMP_IF_NOT_NONE", 5, True)):
            self.tells(f"RESUME; LOAD_GLOBAL 1; LOAD_CONST {constant}; {word} a; LOAD_CONST 2; JUMP_FORWARD b; a: LOAD_CONST 3; b: CALL 1; RETURN_VALUE", "s" if jumps else 7, constants=self.constants)

    def test_turns(self):
        self.tells("RESUME; LOAD_CONST 4; GET_ITER; s: FOR_ITER e; LOAD_GLOBAL 0; SWAP 2; CALL 0; POP_TOP; JUMP_BACKWARD s; e: END_FOR; POP_TOP; RETURN_CONST 0", 1, 2)
        # What is left goes on being gone through.
        self.tells("RESUME; LOAD_CONST 8; GET_ITER; FOR_ITER e; LOAD_GLOBAL 0; SWAP 2; CALL 0; POP_TOP; LOAD_GLOBAL 0; SWAP 2; LOAD_GLOBAL 9; LOAD_CONST 8; CALL 1; CALL 1; RETURN_VALUE; e: END_FOR; POP_TOP; "
                   "RETURN_CONST 0", "a", (("iterator",), ("list", "a", "b")), constants=self.constants)


class LineTests(MachineTests):
    def lines(self, text, rows, most=100, **fields):
        code_text = Text(text)
        begins = [code_text.begin(at) for at in range(len(code_text.rows) + 1)]
        code = made(code_text, lines=[(begins[begin], begins[end], line) for begin, end, line in rows], **{"names": NAMES, **fields})
        self.assertEqual(judged(code), "right")
        return [entry[1] for entry in run(code, most)[0] if entry[0] == "line"]

    def test_lines_are_told_when_they_change(self):
        text = "RESUME; NOP; NOP; NOP; NOP; NOP; RETURN_CONST 0"
        self.assertEqual(self.lines(text, [(0, 7, 5)]), [5])
        self.assertEqual(self.lines(text, [(0, 1, 5), (1, 7, None)]), [])
        # A RESUME tells nothing; rows without a line are passed over.
        self.assertEqual(self.lines(text, [(0, 2, 5), (2, 3, None), (3, 4, 5), (4, 5, 6), (5, 6, None), (6, 7, 5)]), [5, 6, 5])
        self.assertEqual(self.lines(text, [(0, 1, 5), (1, 2, 4), (2, 7, 5)]), [4, 5])

    def test_jumps_backward_tell_once_more(self):
        text = "RESUME; LOAD_CONST 4; GET_ITER; s: FOR_ITER e; POP_TOP; {} s; e: END_FOR; POP_TOP; RETURN_CONST 0"
        self.assertEqual(self.lines(text.format("JUMP_BACKWARD"), [(0, 9, 3)]), [3, 3, 3])
        self.assertEqual(self.lines(text.format("JUMP_BACKWARD_NO_INTERRUPT"), [(0, 9, 3)]), [3])
        # Where it leads there is no line: nothing is told, then or later.
        self.assertEqual(self.lines(text.format("JUMP_BACKWARD"), [(0, 3, 3), (3, 4, None), (4, 9, 3)]), [3])
        self.assertEqual(self.lines(text.format("JUMP_BACKWARD"), [(0, 3, 3), (3, 4, 4), (4, 5, None), (5, 6, 4), (6, 9, None)]), [3, 4, 4, 4])
        self.assertEqual(self.lines(text.format("JUMP_BACKWARD"), [(0, 3, None), (3, 4, 4), (4, 6, 5), (6, 9, 4)]), [4, 5, 4, 5, 4])

    def test_resumes_tell_nothing(self):
        body = self.function("RETURN_GENERATOR; POP_TOP; RESUME; LOAD_CONST 0; YIELD_VALUE 0; RESUME 1; POP_TOP; RETURN_CONST 0", flags=35)
        text = Text("RETURN_GENERATOR; POP_TOP; RESUME; LOAD_CONST 0; YIELD_VALUE 0; RESUME 1; POP_TOP; RETURN_CONST 0")
        begins = [text.begin(at) for at in range(9)]
        rows = [(0, 1, 1), (1, 2, 2), (2, 3, 3), (3, 4, 4), (4, 5, 5), (5, 6, 6), (6, 7, 5), (7, 8, 8)]
        body = changed(body, lines=line_bytes([(begins[begin], begins[end], line) for begin, end, line in rows], 1))
        code = made("RESUME; LOAD_GLOBAL 9; LOAD_CONST 0; MAKE_FUNCTION; PUSH_NULL; CALL 0; CALL 1; RETURN_VALUE", names=NAMES, constants=(body,))
        code = changed(code, lines=line_bytes([(0, len(code.code), None)], 1))
        self.assertEqual(judged(code), "right")
        self.assertEqual([entry[1] for entry in run(code, 100)[0] if entry[0] == "line"], [4, 5, 8])

    def test_an_extended_argument_belongs_to_its_instruction(self):
        constants = tuple(range(300))
        self.assertEqual(self.lines("RESUME; LOAD_CONST 299; POP_TOP; RETURN_CONST 0", [(0, 1, 1), (1, 2, 7), (2, 4, 8)], constants=constants), [7, 8])


class HandlerTests(MachineTests):
    def test_the_stack_is_cut_to_the_depth(self):
        text = "RESUME; LOAD_CONST 2; LOAD_CONST 3; s: LOAD_NAME 1; t: RETURN_VALUE; h: {}; LOAD_GLOBAL 0; SWAP 2; CALL 0; RETURN_VALUE"
        self.tells(text.format("NOP"), ("instance", "NameError", ()), handlers=[("s", "t", "h", 2, False)])
        self.tells(text.format("POP_TOP"), "s", handlers=[("s", "t", "h", 2, False)])
        self.tells(text.format("POP_TOP"), 7, handlers=[("s", "t", "h", 1, False)])
        self.tells(text.format("POP_TOP; POP_TOP; NOP"), "s", handlers=[("s", "t", "h", 2, True)])

    def test_raising_again(self):
        text = "RESUME; s: LOAD_NAME 1; t: RETURN_VALUE; h: {}"
        log, outcome = self.log(text.format("RERAISE"), [("s", "t", "h", 0, False)])
        self.assertEqual((log, outcome), ([("leave", "NameError")], ("raised", "NameError", (), [("f", 1)])))
        log, outcome = self.log(text.format("PUSH_EXC_INFO; RERAISE 2"), [("s", "t", "h", 0, True)])
        self.assertEqual(outcome[3], [("f", 1)])
        # It is the handler of its own offset.
        log, outcome = self.log("RESUME; s: LOAD_NAME 1; t: RETURN_VALUE; h: RERAISE; i: POP_TOP; RETURN_CONST 0", [("s", "t", "h", 0, False), ("h", "i", "i", 0, False)])
        self.assertEqual((log, outcome), ([("return", None)], ("returned",)))
        # What has been raised with a value leaves a trace once more.
        _, outcome = self.log(text.format("RAISE_VARARGS 1"), [("s", "t", "h", 0, False)])
        self.assertEqual(outcome[3], [("f", 1), ("f", 1)])
        _, outcome = self.log(text.format("PUSH_EXC_INFO; POP_TOP; RAISE_VARARGS 0"), [("s", "t", "h", 0, False)])
        self.assertEqual(outcome[3], [("f", 1)])

    def test_the_handled_exception(self):
        rows = "RESUME; s: LOAD_NAME 1; t: RETURN_VALUE; h: PUSH_EXC_INFO; POP_TOP; {} u: LOAD_NAME 2; v: RETURN_VALUE; i: LOAD_ATTR 10; LOAD_GLOBAL 0; SWAP 2; CALL 0; RETURN_VALUE"
        where = [("s", "t", "h", 0, False), ("u", "v", "i", 1, False)]
        names = NAMES + ("__context__",)
        self.tells(rows.format(""), ("instance", "NameError", ()), handlers=where, names=names)
        self.tells(rows.format("POP_EXCEPT;"), None, handlers=[where[0], ("u", "v", "i", 0, False)], names=names)

    def test_matching(self):
        rows = "RESUME; s: LOAD_NAME 1; t: RETURN_VALUE; h: LOAD_GLOBAL {}; CHECK_EXC_MATCH; LOAD_GLOBAL 0; SWAP 2; CALL 0; RETURN_VALUE"
        self.tells(rows.format(6), False, handlers=[("s", "t", "h", 0, False)])
        self.tells(rows.format(10), True, handlers=[("s", "t", "h", 0, False)], names=NAMES + ("NameError",))

    def test_exits(self):
        rows = "RESUME; LOAD_GLOBAL 0; s: LOAD_NAME 1; t: RETURN_VALUE; h: PUSH_EXC_INFO; WITH_EXCEPT_START; RETURN_VALUE"
        self.tells(rows, (("class", "NameError"), ("instance", "NameError", ()), None), handlers=[("s", "t", "h", 1, True)])


class GeneratorTests(MachineTests):
    def test_sends(self):
        body = self.function("RETURN_GENERATOR; POP_TOP; RESUME; LOAD_CONST 1; YIELD_VALUE 0; RESUME 1; POP_TOP; RETURN_CONST 2", flags=35, constants=(None, 5, 6))
        outer = self.function("RETURN_GENERATOR; POP_TOP; RESUME; LOAD_CONST 0; MAKE_FUNCTION; PUSH_NULL; CALL 0; GET_YIELD_FROM_ITER; LOAD_CONST 1; SEND e; RETURN_VALUE; e: END_SEND; RETURN_VALUE", flags=35,
                              constants=(body, None))
        log, outcome = self.log("RESUME; LOAD_GLOBAL 9; LOAD_CONST 0; MAKE_FUNCTION; PUSH_NULL; CALL 0; CALL 1; RETURN_VALUE", constants=(outer,))
        self.assertEqual(log, [("call", "g"), ("call", "g"), ("yield", 5), ("return", 5), ("return", ("list",))])

    def test_a_stop_iteration_without_a_handler(self):
        body = self.function("RETURN_GENERATOR; POP_TOP; RESUME; LOAD_GLOBAL 0; RAISE_VARARGS 1", flags=35, names=("StopIteration",))
        log, outcome = self.log("RESUME; LOAD_GLOBAL 9; LOAD_CONST 0; MAKE_FUNCTION; PUSH_NULL; CALL 0; CALL 1; RETURN_VALUE", constants=(body,))
        self.assertEqual(log[:2], [("call", "g"), ("leave", "StopIteration")])

    def test_what_is_thrown_in_one_that_has_not_begun_finds_no_handler(self):
        text = "RETURN_GENERATOR; a: POP_TOP; RESUME; RETURN_CONST 0; h: RETURN_CONST 0"
        body = made(text, [("a", "h", "h", 0, False)], flags=35, path="g")
        self.assertEqual(judged(body), "right")
        names = NAMES + ("throw",)
        log, outcome = self.log("RESUME; LOAD_CONST 0; MAKE_FUNCTION; PUSH_NULL; CALL 0; LOAD_ATTR 11; LOAD_GLOBAL 6; CALL 1; RETURN_VALUE", constants=(body,), names=names)
        self.assertEqual((log, outcome[1]), ([("call", "g"), ("leave", "KeyError"), ("leave", "KeyError")], "KeyError"))

    def test_throws_where_it_rests(self):
        # The entries below stay, and None lies where what is yielded lay.
        text = "RETURN_GENERATOR; POP_TOP; RESUME; LOAD_GLOBAL 1; LOAD_CONST 1; s: YIELD_VALUE 0; t: RETURN_VALUE; h: POP_TOP; CALL 1; RETURN_VALUE"
        body = made(text, [("s", "t", "h", 3, False)], flags=35, path="g", names=NAMES, constants=(None, 5))
        self.assertEqual(judged(body), "right")
        names = NAMES + ("throw", "next")
        rows = "RESUME; LOAD_CONST 0; MAKE_FUNCTION; PUSH_NULL; CALL 0; COPY 1; LOAD_GLOBAL 12; SWAP 2; CALL 0; POP_TOP; LOAD_ATTR 11; LOAD_GLOBAL 6; CALL 1; RETURN_VALUE"
        log, outcome = self.log(rows, constants=(body,), names=names)
        self.assertEqual(log, [("call", "g"), ("yield", 5), ("call", "g"), ("tell", None), ("return", None), ("leave", "StopIteration")])


class RefusedTests(unittest.TestCase):
    def test_codes_of_functions(self):
        for fields in ({"flags": 3}, {"flags": 35}, {"slots": ("a",), "kinds": (128,)}):
            with self.assertRaises(NoCode):
                run(changed(made("RESUME; RETURN_CONST 0"), **fields), 5)


class ChangedCodesTests(unittest.TestCase):
    """Compiled codes with something changed: if they are right, with all codes in them, the machine never goes wrong."""

    def change(self, code, pick):
        rows = [row for row in instructions(code)]
        data = list(code.code)
        offset, word, argument, _, _ = pick.choice([row for row in rows if row[1] != "EXTENDED_ARG"])
        match pick.randint(0, 6):
            case 0 | 1:
                data[offset + 1] = pick.choice((0, 1, 2, 3, (data[offset + 1] + 1) % 256, max(0, data[offset + 1] - 1), pick.randint(0, 30)))
            case 2:
                constants = list(code.constants)
                if len(constants) > 1:
                    one, other = pick.sample(range(len(constants)), 2)
                    constants[one], constants[other] = constants[other], constants[one]
                return changed(code, constants=constants)
            case 3:
                constants = [constant if isinstance(constant, Code) or pick.random() < 0.7 else pick.choice((None, True, 0, 1, "s", (), ("a",)))
                             for constant in code.constants]
                return changed(code, constants=constants)
            case 4:
                if not CACHES.get(word):
                    data[offset:offset + 2] = [30, 0]
            case 5:
                handlers = [list(row) for row in exception_rows(code)]
                if handlers:
                    row = pick.choice(handlers)
                    row[3] = max(0, row[3] + pick.choice((-1, 1)))
                    row[4] = pick.choice((row[4], not row[4]))
                    return changed(code, handlers=exception_bytes(handlers))
            case 6:
                words = [row for row in rows if row[1] != "EXTENDED_ARG" and CACHES.get(row[1]) == CACHES.get(word)]
                data[offset] = code.code[pick.choice(words)[0]]
        return changed(code, code=data)

    def inside(self, code, pick):
        """The code with something changed in it, or in one in it."""
        inner = [at for at, constant in enumerate(code.constants) if isinstance(constant, Code)]
        if inner and pick.random() < 0.7:
            constants = list(code.constants)
            at = pick.choice(inner)
            constants[at] = self.inside(constants[at], pick)
            return changed(code, constants=constants)
        code = self.change(code, pick)
        for size in range(1, 40):
            if judged(code) != ("size", 0):
                break
            code = changed(code, stacksize=size)
        return code

    def test_right_ones_run(self):
        pick, told = random.Random(121), 0
        for _ in range(60):
            try:
                code = compiled(RunMaker(pick, pick.choice((5, 15))).program(), pick.random() < 0.6)
            except NoProgram:
                continue
            for _ in range(12):
                try:
                    other = self.inside(code, pick)
                except NoCode:
                    continue
                if all(judged(inner) == "right" for inner in codes_in(other)) and other.flags == 0:
                    found = self.run_for_a_while(other)
                    if found is not None:
                        told += 1
                        log, outcome = found
                        self.assertIsInstance(log, list)
                        self.assertIn(outcome[0], ("returned", "raised", "stopped"))
        self.assertGreater(told, 150)

    def run_for_a_while(self, code):
        """What the run of a code gives; None if it goes round without an entry, which no tree does."""
        def stop(*_):
            raise TimeoutError
        before = signal.signal(signal.SIGALRM, stop)
        signal.setitimer(signal.ITIMER_REAL, 1)
        try:
            return run(code, 200)
        except TimeoutError:
            return None
        finally:
            signal.setitimer(signal.ITIMER_REAL, 0)
            signal.signal(signal.SIGALRM, before)


if __name__ == "__main__":
    unittest.main()
