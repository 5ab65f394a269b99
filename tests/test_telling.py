"""Instructions told one by one, and bytes made of such."""

import unittest

from codewalk.assembly import compiled
from codewalk.codes import Code
from codewalk.errors import NoCode, NoProgram, NoRows
from codewalk.tables import exception_bytes, exception_rows, line_bytes, line_rows
from codewalk.telling import bytes_of, instructions
from tests import opcodes
from tests.codes import changed, codes_in, made
from tests.opcodes import CACHES, LAST_WITHOUT_ARGUMENT, NUMBERS
from tests.programs import Maker
from tests.samples import assign, constant, name, numbers, small_trees
from tests.test_check_wrong import junk

TABLES = {"constants": (None, True, 7, "it's", (1, "a", (None,)), 10 ** 30), "names": ("n", "m", "o"), "slots": ("a", "b", "c"), "kinds": (32, 64, 128),
          "flags": 3}
JUMPS = ("FOR_ITER", "SEND", "JUMP_FORWARD", "JUMP_BACKWARD", "JUMP_BACKWARD_NO_INTERRUPT", "POP_JUMP_IF_FALSE", "POP_JUMP_IF_TRUE", "POP_JUMP_IF_NONE",
         "POP_JUMP_IF_NOT_NONE")


def code_of(rows, **fields):
    data = opcodes.bytes_of(rows)
    return Code(**{"argcount": 0, "onlycount": 0, "stacksize": 1, "flags": 0, "code": data, "name": "f", "path": "p.f", "line": 1, "lines": (), "handlers": (),
                   **TABLES, **fields})


class InstructionTests(unittest.TestCase):
    def meaning(self, word, argument, **fields):
        return instructions(code_of([(word, argument)], **fields))[-1][3]

    def test_the_example(self):
        tree = [("Assign", 1, [("Name", "x")], ("BinOp", ("Constant", 2), "+", ("Constant", 3)))]
        self.assertEqual(instructions(compiled(tree)), [
            (0, "RESUME", 0, "", None), (2, "LOAD_CONST", 0, "5", 1), (4, "STORE_NAME", 0, "x", 1), (6, "RETURN_CONST", 1, "None", 1),
        ])

    def test_every_word(self):
        for word, number in NUMBERS.items():
            if word in ("CACHE", "EXTENDED_ARG"):
                continue
            code = code_of([("NOP", 0), (word, 1), ("NOP", 0)])
            found = instructions(code=code)
            self.assertEqual([row[:3] for row in found], [
                (0, "NOP", None), (2, word, None if number <= LAST_WITHOUT_ARGUMENT else 1), (4 + 2 * CACHES.get(word, 0), "NOP", None),
            ])
            self.assertTrue(all(len(row) == 5 and row[4] is None and isinstance(row[3], str) for row in found))

    def test_words_without_an_argument(self):
        for word, number in NUMBERS.items():
            if 0 < number <= LAST_WITHOUT_ARGUMENT:
                self.assertEqual(instructions(code_of([(word, 7)])), [(0, word, None, "", None)])

    def test_constants(self):
        for word in ("LOAD_CONST", "RETURN_CONST"):
            for at, text in enumerate(("None", "True", "7", '"it\'s"', "(1, 'a', (None,))", "1" + "0" * 30)):
                self.assertEqual(self.meaning(word, at), text)
            self.assertEqual(self.meaning(word, 0, constants=[made("RESUME; RETURN_CONST 0", path="f.<locals>.g")]), "<code f.<locals>.g>")

    def test_names(self):
        for word in ("LOAD_NAME", "STORE_NAME", "DELETE_NAME", "STORE_GLOBAL", "DELETE_GLOBAL", "STORE_ATTR", "DELETE_ATTR"):
            for at, name in enumerate(TABLES["names"]):
                self.assertEqual(self.meaning(word, at), name)
        for at, name in enumerate(TABLES["names"]):
            self.assertEqual(self.meaning("LOAD_GLOBAL", 2 * at), name)
            self.assertEqual(self.meaning("LOAD_GLOBAL", 2 * at + 1), f"{name} + NULL")
            self.assertEqual(self.meaning("LOAD_ATTR", 2 * at), name)
            self.assertEqual(self.meaning("LOAD_ATTR", 2 * at + 1), f"{name} + NULL|self")

    def test_locals(self):
        for word in ("LOAD_FAST", "LOAD_FAST_CHECK", "STORE_FAST", "DELETE_FAST", "MAKE_CELL", "LOAD_DEREF", "STORE_DEREF", "DELETE_DEREF",
                     "LOAD_FROM_DICT_OR_DEREF"):
            for at, name in enumerate(TABLES["slots"]):
                self.assertEqual(self.meaning(word, at), name)
        for word in ("LOAD_FAST_LOAD_FAST", "STORE_FAST_LOAD_FAST", "STORE_FAST_STORE_FAST"):
            for first, one in enumerate(TABLES["slots"]):
                for second, other in enumerate(TABLES["slots"]):
                    self.assertEqual(self.meaning(word, 16 * first + second), f"{one}, {other}")

    def test_operators_known_and_unknown(self):
        operators = {0: "+", 1: "&", 2: "//", 3: "<<", 5: "*", 6: "mod", 7: "|", 8: "**", 9: ">>", 10: "-", 12: "^"}
        operators.update({at + 13: f"{op}=" for at, op in list(operators.items())})
        comparisons = {2: "<", 42: "<=", 72: "==", 103: "!=", 132: ">", 172: ">="}
        comparisons.update({at + 16: f"bool({op})" for at, op in list(comparisons.items())})
        for at in range(300):
            self.assertEqual(self.meaning("BINARY_OP", at), operators.get(at, ""))
            self.assertEqual(self.meaning("COMPARE_OP", at), comparisons.get(at, ""))
            self.assertEqual(self.meaning("IS_OP", at), "not" if at == 1 else "")
            self.assertEqual(self.meaning("CONTAINS_OP", at), "not" if at == 1 else "")
            self.assertEqual(self.meaning("CALL_INTRINSIC_1", at), {3: "INTRINSIC_STOPITERATION_ERROR", 6: "INTRINSIC_LIST_TO_TUPLE"}.get(at, ""))
            self.assertEqual(self.meaning("SET_FUNCTION_ATTRIBUTE", at), {1: "defaults", 2: "kwdefaults", 8: "closure"}.get(at, ""))

    def test_jumps(self):
        for word in JUMPS:
            end = 2 + 2 * CACHES.get(word, 0)
            for argument in (0, 1, 22):
                due = end - 2 * argument if "BACKWARD" in word else end + 2 * argument
                self.assertEqual(self.meaning(word, argument), f"to {due}")
        self.assertEqual(instructions(code_of([("NOP", 0)] * 20 + [("JUMP_FORWARD", 2)]))[-1], (40, "JUMP_FORWARD", 2, "to 46", None))

    def test_words_without_a_meaning(self):
        for word in ("RESUME", "BUILD_LIST", "CALL", "COPY", "SWAP", "COPY_FREE_VARS", "UNPACK_SEQUENCE", "YIELD_VALUE", "RERAISE", "RAISE_VARARGS",
                     "CALL_FUNCTION_EX", "CALL_KW", "LIST_APPEND", "DICT_MERGE", "MAP_ADD", "UNPACK_EX", "BUILD_CONST_KEY_MAP"):
            for argument in (0, 1, 9, 300):
                self.assertEqual(self.meaning(word, argument), "")

    def test_arguments_of_one_to_four_bytes(self):
        for argument, bytes_told in ((255, []), (256, [1]), (65536, [1, 0]), (2 ** 24 + 5, [1, 0, 0]), (2 ** 32 - 1, [255, 255, 255])):
            found = instructions(code_of([("NOP", 0), ("BUILD_LIST", argument), ("NOP", 0)]))
            due = [(2 + 2 * at, "EXTENDED_ARG", byte, "", None) for at, byte in enumerate(bytes_told)]
            at = 2 + 2 * len(due)
            self.assertEqual(found[1:], due + [(at, "BUILD_LIST", argument, "", None), (at + 2, "NOP", None, "", None)])
        # A jump leads from its own end.
        found = instructions(code_of([("JUMP_FORWARD", 300)]))
        self.assertEqual(found, [(0, "EXTENDED_ARG", 1, "", None), (2, "JUMP_FORWARD", 300, "to 604", None)])
        constants = list(range(300))
        self.assertEqual(instructions(code_of([("LOAD_CONST", 299)], constants=constants))[-1], (2, "LOAD_CONST", 299, "299", None))

    def test_lines(self):
        rows = [("NOP", 0), ("LOAD_GLOBAL", 0), ("BUILD_LIST", 300), ("NOP", 0)]
        lines = line_bytes([(0, 2, 3), (2, 12, None), (12, 16, 9), (16, 18, 2)], 1)
        self.assertEqual([row[4] for row in instructions(code_of(rows, lines=lines))], [3, None, 9, 9, 2])
        # Behind the end of the table, and where it is none.
        self.assertEqual([row[4] for row in instructions(code_of(rows, lines=lines[:2]))], [3, None, None, None, None])
        for table in ((1,), (232,), (232, 0, 0), (231, 0)):
            self.assertEqual([row[4] for row in instructions(code_of(rows, lines=table))], [None] * 5)
        # Each by where it begins itself, an EXTENDED_ARG, too.
        lines = line_bytes([(0, 14, 5), (14, 40, 6)], 1)
        self.assertEqual([row[4] for row in instructions(code_of(rows, lines=lines))], [5, 5, 5, 6, 6])

    def test_what_is_refused(self):
        right = code_of([("NOP", 0)])
        for thing in [*junk(), None, True, 5, "code", (), [], (30, 0), Code]:
            self.refused(thing)
        for data in ((), (30,), (30, 0, 1, 0), (30, 0, 0, 0), (71, 0, 30, 0), (71, 1), (71, 1, 71, 1, 71, 1, 71, 1, 30, 0), (40, 0, 0, 0), (40, 0, 0, 0, 1, 0, 0, 0),
                     (30, 0, 5, 0), (30, 0, 3, 0)):
            self.refused(changed(right, code=data))

    def refused(self, thing):
        with self.assertRaises(NoCode) as caught:
            instructions(thing)
        self.assertEqual(caught.exception.field, "code")

    def test_indexes_outside_their_tables(self):
        for word, least in (("LOAD_CONST", 6), ("RETURN_CONST", 6), ("LOAD_NAME", 3), ("STORE_ATTR", 3), ("LOAD_GLOBAL", 6), ("LOAD_ATTR", 6), ("LOAD_FAST", 3),
                            ("STORE_DEREF", 3), ("MAKE_CELL", 3), ("LOAD_FAST_LOAD_FAST", 3), ("STORE_FAST_LOAD_FAST", 48), ("STORE_FAST_STORE_FAST", 35)):
            for argument in (least, 300):
                self.refused(code_of([("NOP", 0), (word, argument)]))
        for word in ("LOAD_FAST_LOAD_FAST", "STORE_FAST_LOAD_FAST", "STORE_FAST_STORE_FAST"):
            self.assertEqual(self.meaning(word, 34), "c, c")
        for word in ("BUILD_LIST", "JUMP_FORWARD", "RESUME", "CALL_KW"):
            self.assertEqual(instructions(code_of([(word, 200)], constants=(), names=(), slots=(), kinds=()))[0][:3], (0, word, 200))

    def test_each_call_makes_a_new_list(self):
        code = compiled([assign(name("x"), constant(1))])
        first = instructions(code)
        first.clear()
        self.assertEqual(len(instructions(code)), 4)


class BytesTests(unittest.TestCase):
    def test_the_example(self):
        self.assertEqual(bytes_of([("LOAD_CONST", 300)]), (71, 1, 83, 44))

    def test_every_word(self):
        for word, number in NUMBERS.items():
            if word in ("CACHE", "EXTENDED_ARG"):
                continue
            caches = (0, 0) * CACHES.get(word, 0)
            if number <= LAST_WITHOUT_ARGUMENT:
                self.assertEqual(bytes_of([(word, None)]), (number, 0) + caches)
                continue
            for argument in (0, 1, 255, 256, 65535, 65536, 2 ** 24 - 1, 2 ** 24, 2 ** 32 - 1):
                due = opcodes.bytes_of([(word, argument)])
                self.assertEqual(bytes_of(rows=((word, argument),)), due)
                self.assertEqual(len(due), 2 * (1 + (argument > 255) + (argument > 65535) + (argument >= 2 ** 24)) + len(caches))

    def test_rows_as_lists_and_tuples(self):
        rows = [("RESUME", 0), ("LOAD_CONST", 1), ("TO_BOOL", None), ("POP_JUMP_IF_TRUE", 1000)]
        kept = list(rows)
        self.assertEqual(bytes_of(rows), bytes_of(tuple(rows)))
        self.assertEqual(rows, kept)
        self.assertIs(type(bytes_of(rows)), tuple)
        self.assertEqual(bytes_of([]), ())
        self.assertEqual(bytes_of(()), ())

    def refused(self, rows, at):
        with self.assertRaises(NoRows, msg=rows) as caught:
            bytes_of(rows)
        self.assertEqual(caught.exception.at, at, rows)

    def test_what_is_no_row(self):
        for thing in [None, 5, True, "ab", b"ab", {}, set(), Code, 1.5, range(2), iter(()), made("RESUME; RETURN_CONST 0")]:
            self.refused(thing, -1)

    def test_wrong_rows_at_each_place(self):
        right = [("NOP", None), ("LOAD_CONST", 3), ("CALL", 0)]
        wrong = [None, 5, "NOP", "ab", [], ["NOP", None], ["LOAD_CONST", 3], (), ("NOP",), ("NOP", None, None), (5, 0), (None, None), (("NOP",), None), ([], 0), ("nop", None),
                 ("", 0), ("CACHE", None), ("CACHE", 0), ("EXTENDED_ARG", 1), ("EXTENDED_ARG", None), ("LOAD_CODE", 0), ("LABEL", 0), ("JUMP", 0), ("NOP", 0), ("TO_BOOL", 1),
                 ("POP_TOP", False), ("LOAD_CONST", None), ("LOAD_CONST", -1), ("LOAD_CONST", 2 ** 32), ("LOAD_CONST", True), ("LOAD_CONST", "1"), ("LOAD_CONST", 1.0),
                 ("CALL", [1]), ("RESUME", None), ("RETURN_VALUE", 0), ("JUMP_FORWARD", -1)]
        for row in wrong:
            for at in range(4):
                self.refused(right[:at] + [row] + right[at:], at)
            self.refused([row, row], 0)

    def test_codes_taken_apart_and_put_together(self):
        pick = numbers(111)
        trees = [*small_trees(), *[Maker(pick, 60).program() for _ in range(60)]]
        told = 0
        for tree in trees:
            try:
                codes = codes_in(compiled(tree, pick.random() < 0.5))
            except NoProgram:
                continue
            for code in codes:
                told += 1
                rows = [(word, argument) for _, word, argument, _, _ in instructions(code) if word != "EXTENDED_ARG"]
                again = changed(code, code=bytes_of(rows), lines=line_bytes(line_rows(code), code.line), handlers=exception_bytes(exception_rows(code)))
                self.assertEqual(again, code)
                self.lines_agree(code)
        self.assertGreater(told, 150)

    def lines_agree(self, code):
        rows = line_rows(code)
        for offset, _, _, _, line in instructions(code):
            self.assertEqual(line, [row[2] for row in rows if row[0] <= offset < row[1]][0])


if __name__ == "__main__":
    unittest.main()
