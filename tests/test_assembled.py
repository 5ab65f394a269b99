"""Codes made of flowed rows."""

import sys
import unittest

from codewalk.assembly import assembled
from codewalk.codes import Code
from codewalk.flow import flowed
from codewalk.generate import generated
from codewalk.tables import exception_rows, line_rows
from tests import assembly_by_the_book
from tests.codes import as_words
from tests.opcodes import CACHES, NUMBERS
from tests.random_rows import RowMaker
from tests.rows import PLAIN_HEAD, flow_rows
from tests.samples import numbers


def head(word="function", parameters=((), (), None, None), cells=(), frees=(), flags=3, line=1):
    return (word, "f", "p.f", line, parameters, cells, frees, flags)


def code_of(text, given=PLAIN_HEAD, codes=()):
    return assembled(flow_rows(text), given, codes)


class HeadTests(unittest.TestCase):
    def test_the_example(self):
        tree = [("Assign", 1, [("Name", "x")], ("BinOp", ("Constant", 2), "+", ("Constant", 3)))]
        given = ("program", "<module>", "<module>", 1, ((), (), None, None), (), (), 0)
        code = assembled(flowed(generated(tree)[0], given), given)
        self.assertEqual(code, Code(0, 0, 1, 0, (149, 0, 83, 0, 114, 0, 103, 1), (5, None), ("x",), (), (), "<module>",
                                    "<module>", 1, (248, 234, 0), ()))

    def test_what_is_taken_from_the_head(self):
        given = ("class", "C", "f.<locals>.C", 12, ((), (), None, None), (), ("x", "y"), 0)
        code = code_of("COPY_FREE_VARS 2\nRESUME 0\nRETURN_CONST None", given)
        told = (code.argcount, code.onlycount, code.flags, code.name, code.path, code.line, code.slots, code.kinds)
        self.assertEqual(told, (0, 0, 0, "C", "f.<locals>.C", 12, ("x", "y"), (128, 128)))

    def test_arguments_by_name_and_rows_as_lists(self):
        rows = flow_rows("RESUME 0\nLOAD_CODE 1\nPOP_TOP\nRETURN_CONST 5")
        inner = code_of("RETURN_CONST 1")
        due = assembled(rows, PLAIN_HEAD, [None, inner])
        self.assertEqual(assembled(rows=tuple(rows), head=PLAIN_HEAD, codes=(None, inner)), due)
        self.assertEqual(due.constants, (None, inner, 5))

    def test_locals_of_parameters_of_all_sorts(self):
        given = head(parameters=(("b", "a"), ("k",), "rest", "more"), cells=("a", "rest", "x"), frees=("g", "w"),
                     flags=31)
        code = code_of("""
            STORE_FAST z
            LOAD_FAST_LOAD_FAST ('y', 'b')
            STORE_FAST_STORE_FAST ('z', 'u')
            LOAD_CLOSURE w
            LOAD_CLOSURE a
            DELETE_FAST t
            LOAD_FAST_CHECK s
            STORE_FAST_LOAD_FAST ('k', 'r')
            RETURN_CONST None
        """, given)
        self.assertEqual(code.slots, ("b", "a", "k", "rest", "more", "z", "y", "u", "t", "s", "r", "x", "g", "w"))
        self.assertEqual(code.kinds, (32, 96, 32, 96, 32, 32, 32, 32, 32, 32, 32, 64, 128, 128))
        self.assertEqual((code.argcount, code.onlycount), (2, 1))

    def test_each_word_with_a_local_counts(self):
        for word in ("DELETE_FAST", "LOAD_FAST", "LOAD_FAST_CHECK", "STORE_FAST"):
            self.assertEqual(code_of(f"{word} a\nRETURN_CONST None").slots, ("a",))
        for word in ("LOAD_FAST_LOAD_FAST", "STORE_FAST_LOAD_FAST", "STORE_FAST_STORE_FAST"):
            self.assertEqual(code_of(f"{word} ('b', 'a')\nRETURN_CONST None").slots, ("b", "a"))
        for word in ("LOAD_DEREF", "STORE_DEREF", "DELETE_DEREF", "MAKE_CELL", "LOAD_CLOSURE", "LOAD_FROM_DICT_OR_DEREF"):
            code = code_of(f"LOAD_FAST b\n{word} a\nRETURN_CONST None", head(cells=("a",)))
            self.assertEqual((code.slots, code.kinds), (("b", "a"), (32, 64)))
            self.assertEqual(as_words(code.code)[1], ("LOAD_FAST" if word == "LOAD_CLOSURE" else word, 1))

    def test_cells_and_free_names_that_no_row_names(self):
        code = code_of("RETURN_CONST None", head(cells=("c", "d"), frees=("e",)))
        self.assertEqual((code.slots, code.kinds), (("c", "d", "e"), (64, 64, 128)))

    def test_a_parameter_of_a_comprehension(self):
        code = code_of("LOAD_FAST '.0'\nSTORE_FAST x\nRETURN_CONST 1", head("list", ((".0",), (), None, None)))
        self.assertEqual((code.slots, code.kinds, code.argcount), ((".0", "x"), (32, 32), 1))


class TableTests(unittest.TestCase):
    def test_none_comes_first_for_functions_and_lambdas_alone(self):
        rows = "LOAD_CONST 1\nPOP_TOP\nRETURN_CONST None"
        for word in ("function", "lambda"):
            self.assertEqual(code_of(rows, head(word)).constants, (None, 1))
        for word in ("program", "class", "list", "dict", "generator"):
            self.assertEqual(code_of(rows, head(word)).constants, (1, None))
        self.assertEqual(code_of("RETURN_CONST 1").constants, (None, 1))

    def test_kinds_of_constants_are_told_apart(self):
        constants = (1, True, 0, False, "", "1", (), (1,), (True,), (1, (0,)), (1, (False,)), ("1",), (None,), None, -1)
        text = "\n".join(f"LOAD_CONST {value!r}" for value in constants + constants) + "\nRETURN_CONST None"
        code = code_of(text, head("class"))
        self.assertEqual(repr(code.constants), repr(constants))
        again = tuple(range(len(constants)))
        self.assertEqual([argument for _, argument in as_words(code.code)], [*again, *again, again[-2]])

    def test_constants_are_placed_as_they_occur_first(self):
        code = code_of("LOAD_CONST 5\nRETURN_CONST 7\nLOAD_CONST 6\nRETURN_CONST 5")
        self.assertEqual(code.constants, (None, 5, 7, 6))
        self.assertEqual(as_words(code.code), [("LOAD_CONST", 1), ("RETURN_CONST", 2), ("LOAD_CONST", 3),
                                               ("RETURN_CONST", 1)])

    def test_codes_by_their_numbers(self):
        one, equal, other = (code_of(f"RETURN_CONST {value}") for value in (1, 1, 2))
        text = "LOAD_CODE 2\nLOAD_CODE 0\nLOAD_CONST 'code'\nLOAD_CODE 1\nLOAD_CODE 2\nLOAD_CONST 2\nRETURN_CONST 0"
        code = code_of(text, head("class"), [one, equal, other])
        self.assertEqual(code.constants, (other, one, "code", equal, 2, 0))
        self.assertEqual([argument for _, argument in as_words(code.code)], [0, 1, 2, 3, 0, 4, 5])
        self.assertEqual({word for word, _ in as_words(code.code)}, {"LOAD_CONST", "RETURN_CONST"})

    def test_names_are_placed_as_they_occur_first(self):
        code = code_of("""
            LOAD_NAME b
            STORE_NAME a
            DELETE_NAME b
            LOAD_GLOBAL ('c', False)
            LOAD_GLOBAL ('a', True)
            STORE_GLOBAL d
            DELETE_GLOBAL c
            LOAD_ATTR ('e', False)
            LOAD_ATTR ('d', True)
            STORE_ATTR f
            DELETE_ATTR e
            RETURN_CONST None
        """)
        self.assertEqual(code.names, ("b", "a", "c", "d", "e", "f"))
        self.assertEqual([argument for _, argument in as_words(code.code)], [0, 1, 0, 4, 3, 3, 2, 8, 7, 5, 4, 0])

    def test_a_name_may_be_a_local_and_a_constant_too(self):
        code = code_of("LOAD_FAST a\nLOAD_CONST 'a'\nSTORE_ATTR a\nRETURN_CONST 'a'")
        self.assertEqual((code.slots, code.constants, code.names), (("a",), (None, "a"), ("a",)))


class ArgumentTests(unittest.TestCase):
    def test_operators(self):
        plain = {"+": 0, "&": 1, "//": 2, "<<": 3, "*": 5, "mod": 6, "|": 7, "**": 8, ">>": 9, "-": 10, "^": 12}
        for op, number in plain.items():
            for text, due in ((op, number), (op + "=", number + 13)):
                code = assembled([("BINARY_OP", text, 1, None), ("RETURN_CONST", 1, 1, None)], PLAIN_HEAD)
                self.assertEqual(as_words(code.code)[0], ("BINARY_OP", due))

    def test_comparisons(self):
        for op, number in {"<": 2, "<=": 42, "==": 72, "!=": 103, ">": 132, ">=": 172}.items():
            for truth in (False, True):
                code = code_of(f"COMPARE_OP ({op!r}, {truth})\nRETURN_CONST 1")
                self.assertEqual(as_words(code.code)[0], ("COMPARE_OP", number + 16 * truth))

    def test_two_numbers_in_one(self):
        self.assertEqual(as_words(code_of("UNPACK_EX (3, 0)\nRETURN_CONST 1").code)[0], ("UNPACK_EX", 3))
        code = code_of("UNPACK_EX (255, 2)\nRETURN_CONST 1")
        self.assertEqual(as_words(code.code)[:2], [("EXTENDED_ARG", 2), ("UNPACK_EX", 255)])
        names = tuple(f"v{at}" for at in range(16))
        for word in ("LOAD_FAST_LOAD_FAST", "STORE_FAST_LOAD_FAST", "STORE_FAST_STORE_FAST"):
            code = code_of(f"{word} ('v15', 'v14')\n{word} ('v0', 'v15')\nRETURN_CONST 1",
                           head(parameters=(names, (), None, None)))
            self.assertEqual([argument for _, argument in as_words(code.code)][:2], [254, 15])

    def test_words_without_an_argument(self):
        for word in sorted(NUMBERS):
            if 2 <= NUMBERS[word] <= 44:
                code = code_of(f"{word}\nRETURN_CONST None")
                self.assertEqual(code.code[:2], (NUMBERS[word], 0))
                self.assertEqual(code.code[2:-2], (0, 0) * CACHES.get(word, 0))

    def test_caches_of_all_words(self):
        for word, many in CACHES.items():
            argument = {"BINARY_OP": "+", "COMPARE_OP": ("<", True), "LOAD_ATTR": ("a", False), "LOAD_GLOBAL": ("a", False),
                        "STORE_ATTR": "a", "CALL": 0, "UNPACK_SEQUENCE": 2}.get(word)
            jumps = word in ("FOR_ITER", "SEND", "JUMP_BACKWARD") or word.startswith("POP_JUMP")
            rows = [("LABEL", 9, None, None), (word, 9 if jumps else argument, 1, None), ("RETURN_CONST", 1, 1, None)]
            self.assertEqual(assembled(rows, PLAIN_HEAD).code[2:-2], (0, 0) * many, word)

    def test_arguments_of_one_to_four_bytes(self):
        for argument, due in (
            (0, (47, 0)), (255, (47, 255)), (256, (71, 1, 47, 0)), (65535, (71, 255, 47, 255)),
            (65536, (71, 1, 71, 0, 47, 0)), (2 ** 24 - 1, (71, 255, 71, 255, 47, 255)),
            (2 ** 24, (71, 1, 71, 0, 71, 0, 47, 0)), (2 ** 31 + 5, (71, 128, 71, 0, 71, 0, 47, 5)),
        ):
            code = assembled([("BUILD_LIST", argument, 1, None), ("RETURN_CONST", None, 1, None)], PLAIN_HEAD)
            self.assertEqual(code.code[:-2], due)

    def test_indexes_of_more_than_a_byte(self):
        rows = [("LOAD_CONST", at, 1, None) for at in range(300)] + [("LOAD_NAME", f"n{at}", 1, None) for at in range(300)]
        rows += [("LOAD_GLOBAL", (f"n{at}", at == 129), 1, None) for at in (127, 128, 129)]
        rows += [("STORE_FAST", f"v{at}", 1, None) for at in range(257)] + [("RETURN_VALUE", None, 1, None)]
        words = as_words(assembled(rows, PLAIN_HEAD).code)
        self.assertEqual(words[254:257], [("LOAD_CONST", 255), ("EXTENDED_ARG", 1), ("LOAD_CONST", 0)])
        at = words.index(("LOAD_GLOBAL", 254))
        self.assertEqual(words[at:at + 5], [("LOAD_GLOBAL", 254), ("EXTENDED_ARG", 1), ("LOAD_GLOBAL", 0),
                                            ("EXTENDED_ARG", 1), ("LOAD_GLOBAL", 3)])
        self.assertEqual(words[-3:], [("EXTENDED_ARG", 1), ("STORE_FAST", 0), ("RETURN_VALUE", 0)])


def filled(units):
    return [("NOP", None, 1, None)] * units


def jump(word, label):
    return [(word, label, 1, None)]


def mark(label):
    return [("LABEL", label, None, None)]


END = [("RETURN_CONST", None, 1, None)]


class JumpTests(unittest.TestCase):
    def words(self, rows):
        return as_words(assembled(rows, PLAIN_HEAD).code)

    def test_forward_from_the_end_with_caches(self):
        self.assertEqual(self.words(jump("POP_JUMP_IF_NONE", 3) + filled(2) + mark(3) + END)[0], ("POP_JUMP_IF_NONE", 2))
        self.assertEqual(self.words(jump("JUMP_FORWARD", 3) + mark(3) + END)[0], ("JUMP_FORWARD", 0))
        self.assertEqual(self.words(jump("FOR_ITER", 3) + filled(1) + mark(3) + END)[0], ("FOR_ITER", 1))

    def test_backward_from_the_end_with_caches(self):
        self.assertEqual(self.words(mark(0) + filled(2) + jump("JUMP_BACKWARD", 0))[-1], ("JUMP_BACKWARD", 4))
        self.assertEqual(self.words(mark(0) + filled(2) + jump("JUMP_BACKWARD_NO_INTERRUPT", 0))[-1],
                         ("JUMP_BACKWARD_NO_INTERRUPT", 3))

    def test_a_byte_more_when_it_is_needed(self):
        for many, due in ((255, [("JUMP_FORWARD", 255)]), (256, [("EXTENDED_ARG", 1), ("JUMP_FORWARD", 0)])):
            self.assertEqual(self.words(jump("JUMP_FORWARD", 0) + filled(many) + mark(0) + END)[:-many - 1], due)
        for many, due in ((253, [("JUMP_BACKWARD", 255)]), (254, [("EXTENDED_ARG", 1), ("JUMP_BACKWARD", 1)])):
            # Going back over its own EXTENDED_ARG is one unit more.
            self.assertEqual(self.words(mark(0) + filled(many) + jump("JUMP_BACKWARD", 0))[many:], due)

    def test_more_than_two_bytes(self):
        for many, due in ((65535, [("EXTENDED_ARG", 255), ("JUMP_FORWARD", 255)]),
                          (65536, [("EXTENDED_ARG", 1), ("EXTENDED_ARG", 0), ("JUMP_FORWARD", 0)])):
            self.assertEqual(self.words(jump("JUMP_FORWARD", 0) + filled(many) + mark(0) + END)[:-many - 1], due)
        words = self.words(mark(0) + filled(65536) + jump("JUMP_BACKWARD", 0))[65536:]
        self.assertEqual(words, [("EXTENDED_ARG", 1), ("EXTENDED_ARG", 0), ("JUMP_BACKWARD", 4)])

    def test_a_jump_that_grows_only_because_another_one_does(self):
        rows = jump("JUMP_FORWARD", 0) + filled(200) + jump("JUMP_FORWARD", 1) + filled(54) + mark(0) + filled(202) + mark(1)
        words = self.words(rows + END)
        # The second one is over 256 units, and so the first one is, too.
        self.assertEqual(words[:2], [("EXTENDED_ARG", 1), ("JUMP_FORWARD", 0)])
        self.assertEqual(words[202:204], [("EXTENDED_ARG", 1), ("JUMP_FORWARD", 0)])
        shorter = jump("JUMP_FORWARD", 0) + filled(200) + jump("JUMP_FORWARD", 1) + filled(54) + mark(0) + filled(201) + mark(1)
        self.assertEqual(self.words(shorter + END)[0], ("JUMP_FORWARD", 255))

    def test_a_chain_of_jumps_that_make_one_another_grow(self):
        for many in (2, 3, 9):
            rows = []
            for at in range(many):
                # Each leads over the next one, at the very edge.
                rows += jump("JUMP_FORWARD", at) + filled(100)
                if at:
                    rows += mark(at - 1)
                rows += filled(152)
            rows += filled(1) + mark(many - 1) + END
            code = assembled(rows, PLAIN_HEAD)
            self.assertEqual(code, assembly_by_the_book.assembled(rows, PLAIN_HEAD))

    def test_forward_and_backward_over_one_another(self):
        pick = numbers(41)
        for _ in range(30):
            many = pick.choice((2, 4, 6))
            rows = []
            for at in range(many):
                rows += mark(at) + filled(pick.choice((0, 1, 40, 100, 125, 126, 127, 253, 254)))
                forward = pick.random() < 0.5
                rows += jump("POP_JUMP_IF_TRUE" if forward else "JUMP_BACKWARD",
                             pick.randint(at + 1, many) if forward else pick.randint(0, at))
            rows += mark(many) + END
            self.assertEqual(assembled(rows, PLAIN_HEAD), assembly_by_the_book.assembled(rows, PLAIN_HEAD))

    def test_a_label_is_ahead_of_the_extended_arguments(self):
        rows = jump("JUMP_FORWARD", 0) + filled(3) + mark(0) + [("BUILD_LIST", 70000, 1, None)] + END
        self.assertEqual(self.words(rows)[0], ("JUMP_FORWARD", 3))
        rows = mark(0) + [("BUILD_LIST", 70000, 1, None)] + jump("JUMP_BACKWARD", 0)
        self.assertEqual(self.words(rows)[-1], ("JUMP_BACKWARD", 5))


class StackTests(unittest.TestCase):
    def size(self, text, given=PLAIN_HEAD):
        return code_of(text, given).stacksize

    def test_at_least_one(self):
        self.assertEqual(self.size("RESUME 0\nRETURN_CONST None"), 1)
        self.assertEqual(self.size("LOAD_CONST 1\nRETURN_VALUE"), 1)

    def test_effects(self):
        self.assertEqual(self.size("LOAD_CONST 1\nLOAD_CONST 2\nBINARY_OP +\nLOAD_CONST 3\nBUILD_TUPLE 2\nRETURN_VALUE"), 2)
        self.assertEqual(self.size("LOAD_CONST 1\nUNPACK_SEQUENCE 9\nRETURN_VALUE"), 9)
        self.assertEqual(self.size("LOAD_CONST 1\nUNPACK_EX (2, 3)\nRETURN_VALUE"), 6)
        self.assertEqual(self.size("LOAD_GLOBAL ('a', True)\nRETURN_VALUE"), 2)
        self.assertEqual(self.size("LOAD_NAME a\nLOAD_ATTR ('a', True)\nRETURN_VALUE"), 2)
        self.assertEqual(self.size("LOAD_FAST_LOAD_FAST ('a', 'b')\nRETURN_VALUE"), 2)
        self.assertEqual(self.size("RETURN_GENERATOR\nPOP_TOP\nRETURN_CONST None"), 1)

    def test_both_ways_of_a_jump(self):
        rows = "LOAD_NAME a\nGET_ITER\nFOR_ITER 0\nPOP_TOP\nPOP_TOP\nRETURN_CONST 1\nLABEL 0\n{}END_FOR\nPOP_TOP\nRETURN_CONST 1"
        self.assertEqual(self.size(rows.format("")), 2)
        self.assertEqual(self.size(rows.format("COPY 1\nCOPY 1\nPOP_TOP\nPOP_TOP\n")), 4)
        rows = "LOAD_NAME a\nPOP_JUMP_IF_TRUE 0\n{}RETURN_CONST 1\nLABEL 0\n{}RETURN_CONST 1"
        self.assertEqual(self.size(rows.format("LOAD_CONST 1\n" * 3, "")), 3)
        self.assertEqual(self.size(rows.format("", "LOAD_CONST 1\n" * 4)), 4)

    def test_rows_that_no_way_reaches(self):
        self.assertEqual(self.size("RETURN_CONST 1\nLOAD_CONST 1\nLOAD_CONST 1\nRETURN_VALUE"), 1)
        self.assertEqual(self.size("JUMP_FORWARD 0\nLOAD_CONST 1\nLOAD_CONST 1\nLABEL 0\nRETURN_CONST 1"), 1)

    def test_handlers_with_and_without_the_offset(self):
        for wanted, due in ((False, 4), (True, 5)):
            rows = f"LOAD_NAME a || (0, 3, {wanted})\nRETURN_VALUE\nLABEL 0\nRERAISE 0"
            self.assertEqual(self.size(rows), due)

    def test_no_exception_comes_from_quiet_words(self):
        for word in ("NOP", "LOAD_CONST 1", "LOAD_FAST a", "PUSH_NULL", "BUILD_TUPLE 0", "LOAD_CLOSURE a", "LOAD_CODE 0",
                     "STORE_FAST_LOAD_FAST ('a', 'a')"):
            rows = f"LOAD_CONST 1\n{word} || (0, 7, False)\nRETURN_CONST 1\nLABEL 0\nRERAISE 0"
            codes = [code_of("RETURN_CONST 1")]
            self.assertLess(code_of(rows, head(frees=("a",)), codes).stacksize, 7)
        for word in ("LOAD_FAST_CHECK a", "LOAD_NAME a", "TO_BOOL", "FOR_ITER 1", "YIELD_VALUE 0", "STORE_ATTR a"):
            rows = f"LOAD_CONST 1\nLOAD_CONST 1\n{word} || (0, 7, False)\nRETURN_CONST 1\nLABEL 0\nRERAISE 0\nLABEL 1\nRETURN_CONST 1"
            self.assertEqual(self.size(rows), 8)


class ExceptionTableTests(unittest.TestCase):
    def rows(self, text):
        return exception_rows(code_of(text))

    def test_stretches_with_caches_and_extended_arguments(self):
        rows = self.rows("""
            RESUME 0
            LOAD_GLOBAL ('a', False) | 1 | (0, 1, True)
            BUILD_LIST 70000 | 2 | (0, 1, True)
            CALL 1
            CALL 1 || (0, 1, False)
            LABEL 5
            NOP || (0, 2, False)
            NOP || (1, 2, False)
            RETURN_CONST 1
            LABEL 0
            NOP || (1, 2, False)
            LABEL 1
            RERAISE 0
        """)
        # 0 RESUME, 2 LOAD_GLOBAL, 12 BUILD_LIST, 18 CALL, 26 CALL, 34 NOP, 36 NOP, 38 RETURN_CONST, 40 NOP, 42 RERAISE
        self.assertEqual(rows, [(2, 18, 40, 1, True), (26, 34, 40, 1, False), (34, 36, 40, 2, False),
                                (36, 38, 42, 2, False), (40, 42, 42, 2, False)])

    def test_labels_do_not_end_a_stretch(self):
        rows = "NOP || (1, 0, True)\nLABEL 0\nNOP || (1, 0, True)\nLABEL 1\nNOP || (1, 0, True)\nRETURN_CONST 1"
        self.assertEqual(self.rows(rows), [(0, 6, 4, 0, True)])

    def test_two_labels_of_one_place_are_two_handlers(self):
        rows = "NOP || (0, 0, True)\nNOP || (1, 0, True)\nLABEL 0\nLABEL 1\nRETURN_CONST 1"
        self.assertEqual(self.rows(rows), [(0, 2, 4, 0, True), (2, 4, 4, 0, True)])

    def test_a_stretch_up_to_the_end(self):
        self.assertEqual(self.rows("LABEL 0\nNOP\nRETURN_CONST 1 || (0, 3, False)"), [(2, 4, 0, 3, False)])

    def test_numbers_of_one_to_four_pieces(self):
        for units in (1, 31, 32, 2047, 2048, 4096):
            rows = [("NOP", None, 1, None)] * units + [("NOP", None, 1, (0, units, True))] * units
            rows += [("LABEL", 0, None, None), ("RETURN_CONST", 1, 1, None)]
            code = assembled(rows, PLAIN_HEAD)
            self.assertEqual(exception_rows(code), [(2 * units, 4 * units, 4 * units, units, True)])
            pieces = [0]
            for byte in code.handlers:
                pieces[-1] += 1
                if not byte & 64:
                    pieces.append(0)
            due = [max(1, (number.bit_length() + 5) // 6) for number in (units, units, 2 * units, 2 * units + 1)]
            self.assertEqual(pieces[:-1], due)

    def test_the_bytes(self):
        code = code_of("NOP || (0, 3, True)\nRETURN_CONST 1\nLABEL 0\nRERAISE 0")
        self.assertEqual(code.handlers, (128, 1, 2, 7))


class LineTableTests(unittest.TestCase):
    def code(self, *stretches, line=10):
        rows = []
        for told, units in stretches:
            rows += [("NOP", None, told, None)] * units
        return assembled(rows + END, head(line=line))

    def test_stretches_of_one_unit_to_hundreds(self):
        for units in (1, 7, 8, 9, 16, 17, 300):
            code = self.code((5, units), line=5)
            # The row behind has the line 1.
            self.assertEqual(line_rows(code), [(0, 2 * units, 5), (2 * units, 2 * units + 2, 1)])
            full, rest = divmod(units, 8)
            due = (239, 0) * full + ((232 + rest - 1, 0) if rest else ())
            self.assertEqual(code.lines, due + (232, 9))

    def test_lines_up_and_down_by_little_and_much(self):
        for told, due in ((10, (0,)), (11, (2,)), (9, (3,)), (41, (62,)), (42, (64, 1)), (-21, (63,)), (-22, (65, 1)),
                          (10 + 1023, (64 + 62, 31)), (10 + 2 ** 20, (64, 64, 64, 8)), (999999, (106, 81, 104, 7))):
            code = self.code((told, 1))
            self.assertEqual(code.lines[:1 + len(due)], (232,) + due)
            self.assertEqual(line_rows(code)[0], (0, 2, told))

    def test_units_without_a_line(self):
        code = self.code((None, 9), (12, 1), (None, 1), (12, 2))
        self.assertEqual(code.lines, (255, 248, 232, 4, 248, 233, 0, 232, 23))

    def test_caches_and_extended_arguments_belong_to_their_instruction(self):
        rows = [("LOAD_GLOBAL", ("a", False), 3, None), ("BUILD_LIST", 70000, 4, None), ("RETURN_VALUE", None, 4, None)]
        code = assembled(rows, head(line=3))
        self.assertEqual(line_rows(code), [(0, 10, 3), (10, 18, 4)])

    def test_labels_do_not_end_a_stretch(self):
        rows = [("NOP", None, 1, None), ("LABEL", 0, None, None), ("RETURN_CONST", None, 1, None)]
        self.assertEqual(assembled(rows, PLAIN_HEAD).lines, (233, 0))


class WholeTests(unittest.TestCase):
    def test_random_rows(self):
        pick = numbers(42)
        inner = code_of("RETURN_CONST 1")
        for _ in range(150):
            names = [f"v{at}" for at in range(pick.choice((2, 20)))]
            rows = RowMaker(pick, pick.choice((5, 15, 40)), names).made()
            given = head(parameters=(tuple(names[:pick.randint(0, 2)]), (), None, None), cells=("x",))
            flow = flowed(rows, given, pick.random() < 0.5)
            kept = list(flow)
            code = assembled(flow, given, [inner, inner])
            self.assertEqual(code, assembly_by_the_book.assembled(flow, given, [inner, inner]))
            self.assertEqual(flow, kept)
            self.assertEqual(assembled(flow, given, [inner, inner]), code)

    def test_the_time_grows_no_faster_than_the_rows(self):
        def calls(times):
            rows = []
            for at in range(times):
                rows += mark(at) + [("LOAD_NAME", f"n{at}", at + 1, (at, 0, True)), ("LOAD_CONST", at, None, None),
                                    ("POP_JUMP_IF_TRUE", at + 1, at + 1, None)]
            rows += mark(times) + END
            found = []
            sys.setprofile(lambda frame, event, _: found.append(event) if event in ("call", "c_call") else None)
            try:
                assembled(rows, PLAIN_HEAD)
            finally:
                sys.setprofile(None)
            return len(found)
        self.assertLess(calls(800), 4.6 * calls(200))


if __name__ == "__main__":
    unittest.main()
