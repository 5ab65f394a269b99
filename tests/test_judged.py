"""Which codes are right: the bytes, the tables, the slots, the arguments, the jumps, the begin and the end."""

import unittest

from codewalk.assembly import compiled
from codewalk.codes import Code
from codewalk.errors import NoCode, NoProgram
from codewalk.judging import judged
from codewalk.tables import exception_bytes
from tests import judge_by_the_book
from tests.codes import Text, changed, codes_in, made
from tests.opcodes import CACHES, LAST_WITHOUT_ARGUMENT, NUMBERS, bytes_of
from tests.programs import Maker
from tests.samples import assign, constant, name, numbers, showcase, small_trees
from tests.test_check_wrong import junk

NOTHING = "RESUME; RETURN_CONST 0"


class JudgedTests(unittest.TestCase):
    def right(self, *arguments, **fields):
        code = made(*arguments, **fields)
        self.assertEqual(judged(code), "right", arguments)
        self.assertEqual(judge_by_the_book.judged(code), "right", arguments)
        return code

    def wrong(self, due, *arguments, **fields):
        code = arguments[0] if isinstance(arguments[0], Code) else made(*arguments, **fields)
        self.assertEqual(judged(code), due, (arguments, fields))
        self.assertEqual(judge_by_the_book.judged(code), due, (arguments, fields))
        self.assertEqual(judged(code=code), due)

    def with_bytes(self, data, **fields):
        """A code of bytes, with lines that cover them."""
        code = made(NOTHING)
        lines = (232 + 7, 0) * (len(data) // 16) + ((232 + len(data) // 2 % 8 - 1, 0) if len(data) // 2 % 8 else ())
        return changed(code, code=data, lines=lines, **fields)


class WholeTests(JudgedTests):
    def test_the_example(self):
        self.assertEqual(judged(compiled([assign(name("x"), ("BinOp", constant(2), "+", constant(3)))])), "right")

    def test_what_is_no_code(self):
        for thing in [*junk(), None, True, 5, "code", (), [], (149, 0), Code, {}]:
            with self.assertRaises(NoCode) as caught:
                judged(thing)
            self.assertEqual(caught.exception.field, "code")

    def test_compiled_programs_and_all_codes_in_them(self):
        pick = numbers(71)
        trees = [*small_trees(), showcase(), *[Maker(pick, pick.choice((20, 60, 100))).program() for _ in range(150)]]
        told = 0
        for tree in trees:
            for passes in (True, False):
                try:
                    code = compiled(tree, passes)
                except NoProgram:
                    continue
                for inner in codes_in(code):
                    told += 1
                    self.assertEqual(judged(inner), "right")
                    for size in (inner.stacksize - 1, inner.stacksize + 1):
                        self.assertEqual(judged(changed(inner, stacksize=size)), ("size", 0))
        self.assertGreater(told, 1000)

    def test_codes_in_the_constants_are_looked_at_for_their_slots_alone(self):
        inner = changed(made(NOTHING), code=(), lines=(7,), stacksize=99)
        code = made("RESUME; LOAD_CONST 0; MAKE_FUNCTION; RETURN_VALUE", constants=(inner,))
        self.assertEqual(judged(code), "right")
        # Those that are not loaded are not even looked at for these.
        code = made("RESUME; RETURN_CONST 0", constants=(None, changed(inner, flags=1)))
        self.assertEqual(judged(code), "right")


class BytesTests(JudgedTests):
    def test_empty(self):
        self.wrong(("bytes", 0), changed(made(NOTHING), code=(), lines=()))

    def test_an_odd_byte(self):
        self.wrong(("bytes", 4), self.with_bytes((149, 0, 103, 0, 30)))
        self.wrong(("bytes", 0), self.with_bytes((149,)))
        self.wrong(("bytes", 2), self.with_bytes((149, 0, 5, 0, 0)))
        self.wrong(("bytes", 2), self.with_bytes((149, 0, 71, 1, 30)))

    def test_numbers_that_are_no_words(self):
        words = set(NUMBERS.values())
        for number in range(256):
            if number not in words or number == 0:
                self.wrong(("bytes", 2), self.with_bytes((149, 0, number, 0, 103, 0)))
                self.wrong(("bytes", 2), self.with_bytes((149, 0, 71, 1, number, 0, 103, 0)))

    def test_caches(self):
        for word, many in CACHES.items():
            whole = (149, 0, NUMBERS[word], 0) + (0, 0) * many
            self.assertNotEqual(judged(self.with_bytes(whole + (103, 0)))[0], "bytes")
            for size in range(4, len(whole)):
                self.wrong(("bytes", 2), self.with_bytes(whole[:size]))
            for at in range(4, len(whole)):
                self.wrong(("bytes", 2), self.with_bytes(whole[:at] + (1,) + whole[at + 1:]))
            self.wrong(("bytes", len(whole)), self.with_bytes(whole + (0, 0, 103, 0)))
            self.wrong(("bytes", 2), self.with_bytes((149, 0, 71, 1) + whole[2:-1]))

    def test_extended_arguments(self):
        for data, due in (
            ((71, 0, 83, 0), 0), ((149, 0, 71, 0, 71, 1, 83, 0), 2), ((71, 1), 0), ((149, 0, 71, 1, 71, 0), 2),
            ((149, 0, 71, 1, 71, 1, 71, 1, 71, 1, 83, 0), 2), ((149, 0, 71, 1, 71, 1, 71, 1, 71, 1), 2),
            ((71, 1, 71, 1, 71, 1), 0), ((30, 0, 71, 1, 0, 0), 2),
        ):
            self.wrong(("bytes", due), self.with_bytes(data))
        self.wrong(("argument", 2), self.with_bytes((149, 0, 71, 255, 71, 0, 71, 0, 83, 0)))

    def test_the_first_one(self):
        self.wrong(("bytes", 2), self.with_bytes((149, 0, 1, 0, 71, 0, 3, 0, 5)))


class TableTests(JudgedTests):
    rows = "RESUME; a: LOAD_NAME 0; b: BINARY_SUBSCR; c: POP_TOP; d: RETURN_CONST 0; h: RERAISE"

    def table(self, *rows):
        text = Text(self.rows)
        return changed(made(text), handlers=exception_bytes([(*row, text.at("h"), 0, False) for row in rows]))

    def test_no_table(self):
        self.wrong(("table", 0), changed(made(NOTHING), handlers=(1,)))
        self.wrong(("table", 0), changed(made(NOTHING), handlers=(128, 1, 2)))
        self.wrong(("table", 0), changed(made(NOTHING), handlers=(128, 1, 2, 64)))

    def test_begins_and_ends(self):
        # 0 RESUME, 2 LOAD_NAME, 4 BINARY_SUBSCR, 6 CACHE, 8 POP_TOP, 10 RETURN_CONST, 12 RERAISE, 14 the end
        for begin, end in ((6, 8), (6, 14), (4, 6), (2, 6), (14, 16), (16, 18), (0, 16), (0, 2000)):
            self.wrong(("table", begin), self.table((begin, end)))
        for begin, end in ((0, 2), (2, 8), (12, 14), (0, 14)):
            self.assertNotIn(judged(self.table((begin, end)))[0], ("table", "lines"))

    def test_empty_rows(self):
        for at in (0, 2, 12, 14):
            self.wrong(("table", at), self.table((at, at)))
        self.wrong(("table", 4), self.table((2, 4), (4, 4), (4, 8)))

    def test_order_and_overlap(self):
        self.wrong(("table", 2), self.table((0, 4), (2, 8)))
        self.wrong(("table", 2), self.table((4, 8), (2, 4)))
        self.wrong(("table", 0), self.table((4, 8), (0, 2)))
        self.wrong(("table", 4), self.table((4, 8), (4, 8)))
        self.wrong(("table", 4), self.table((0, 12), (4, 8), (8, 10)))
        self.assertEqual(judged(self.table((0, 2), (2, 4), (8, 10)))[0], "depth")

    def test_the_least_of_several(self):
        self.wrong(("table", 2), self.table((6, 8), (2, 4)))
        self.wrong(("table", 4), self.table((4, 6), (8, 8)))

    def test_lines(self):
        code = made(NOTHING)
        for lines in ((), (232,), (232, 0), (233,), (234, 0), (248,), (249, 248), (231, 0), (0, 0), (233, 64), (233, 1)):
            self.wrong(("lines", 0), changed(code, lines=lines))
        for lines in ((233, 0), (249,), (248, 232, 9), (232, 2, 232, 3), (248, 248)):
            self.assertEqual(judged(changed(code, lines=lines)), "right")

    def test_the_table_goes_ahead_of_the_lines(self):
        self.wrong(("table", 0), changed(made(NOTHING), lines=(), handlers=(1,)))
        self.wrong(("bytes", 0), changed(made(NOTHING), lines=(), handlers=(1,), code=(1, 1)))
        self.wrong(("lines", 0), changed(made(NOTHING), lines=(), flags=1))


class SlotTests(JudgedTests):
    def slots(self, flags, kinds, argcount=0, onlycount=0, names=None):
        names = names or [f"v{at}" for at in range(len(kinds))]
        return changed(made(NOTHING), flags=flags, kinds=kinds, slots=names, argcount=argcount, onlycount=onlycount)

    def test_flags(self):
        for flags in range(130):
            rest = flags & ~3
            right = flags == 0 or (flags & 3 == 3 and rest < 64)
            kinds = (32,) * (bool(flags & 4) + bool(flags & 8))
            self.assertEqual(judged(self.slots(flags, kinds)) == ("slots", 0), not right, flags)
        for flags in (67, 128 + 3, 2 ** 20 + 3, 2 ** 31 - 1):
            self.wrong(("slots", 0), self.slots(flags, (32, 32)))

    def test_kinds_of_parameters(self):
        for flags, argcount, onlycount, many in ((3, 0, 0, 0), (3, 1, 0, 1), (3, 1, 2, 3), (7, 1, 0, 2), (11, 0, 1, 2),
                                                 (15, 1, 1, 4)):
            for kinds in ((32,) * many, (96,) * many):
                self.assertNotEqual(judged(self.slots(flags, kinds, argcount, onlycount)), ("slots", 0))
                for rest in ((32,), (64,), (128,), (32, 32, 64, 64, 128, 128), (32, 128), (64, 128)):
                    self.assertNotEqual(judged(self.slots(flags, kinds + rest, argcount, onlycount)), ("slots", 0))
            if many:
                self.wrong(("slots", 0), self.slots(flags, (32,) * (many - 1), argcount, onlycount))
                for kind in (64, 128, 0, 33, 16, 255):
                    self.wrong(("slots", 0), self.slots(flags, (32,) * (many - 1) + (kind,), argcount, onlycount))
        self.wrong(("slots", 0), self.slots(3, (32,), 2 ** 31 - 1, 2 ** 31 - 1))

    def test_kinds_behind_the_parameters(self):
        for kinds in ((96,), (64, 32), (128, 32), (128, 64), (32, 64, 32), (64, 128, 64), (0,), (160,), (32, 96)):
            self.wrong(("slots", 0), self.slots(3, kinds))

    def test_codes_without_flags(self):
        self.assertEqual(judged(self.slots(0, (128, 128)))[0], "prefix")
        for kinds in ((32,), (64,), (96,), (128, 32), (0,)):
            self.wrong(("slots", 0), self.slots(0, kinds))
        for argcount, onlycount in ((1, 0), (0, 1)):
            self.wrong(("slots", 0), self.slots(0, (), argcount, onlycount))
            self.wrong(("slots", 0), self.slots(0, (128,), argcount, onlycount))

    def test_names_of_slots(self):
        self.wrong(("slots", 0), self.slots(3, (32, 32), names=("a", "a")))
        self.wrong(("slots", 0), self.slots(3, (32, 64, 128), names=("a", "b", "a")))
        self.wrong(("slots", 0), self.slots(0, (128, 128), names=("a", "a")))


# Codes of functions: a, b plain, c a cell, d a free name.
FUNCTION = {"flags": 3, "argcount": 2, "slots": ("a", "b", "c", "d"), "kinds": (32, 96, 64, 128)}
BEGIN = "COPY_FREE_VARS 1; MAKE_CELL 1; MAKE_CELL 2; RESUME"


class ArgumentTests(JudgedTests):
    """The offset of the first instruction behind the RESUME is 2, behind `BEGIN` it is 8."""

    def argument(self, row, right=False, at=2, begin="RESUME", **fields):
        code = made(f"{begin}; {row}; RETURN_CONST 0", size=1, **fields)
        found = judged(code)
        self.assertEqual(found != ("argument", at), right, (row, found))
        self.assertEqual(judge_by_the_book.judged(code), found)

    def test_words_without_an_argument(self):
        for word, number in NUMBERS.items():
            if 2 <= number <= LAST_WITHOUT_ARGUMENT:
                for argument in (1, 255, 256):
                    self.argument(f"{word} {argument}")

    def test_indexes(self):
        for word in ("LOAD_CONST", "RETURN_CONST"):
            for argument, right in ((0, True), (4, True), (5, False), (300, False)):
                self.argument(f"{word} {argument}", right)
        for word in ("LOAD_NAME", "STORE_NAME", "DELETE_NAME", "LOAD_GLOBAL", "STORE_GLOBAL", "DELETE_GLOBAL",
                     "LOAD_ATTR", "STORE_ATTR", "DELETE_ATTR"):
            many = 4 if word in ("LOAD_GLOBAL", "LOAD_ATTR") else 2
            for argument in range(6):
                self.argument(f"{word} {argument}", argument < many)

    def test_kinds_of_slots(self):
        for word, kinds in (
            ("LOAD_FAST", (0, 1, 2, 3)), ("LOAD_FAST_CHECK", (0,)), ("STORE_FAST", (0,)), ("DELETE_FAST", (0,)),
            ("MAKE_CELL", (1, 2)), ("LOAD_DEREF", (1, 2, 3)), ("STORE_DEREF", (1, 2, 3)), ("DELETE_DEREF", (1, 2, 3)),
        ):
            for slot in (0, 1, 2, 3, 4, 255, 300):
                self.argument(f"{word} {slot}", slot in kinds, 8, BEGIN, **FUNCTION)

    def test_pairs(self):
        fields = {"flags": 3, "slots": tuple(f"v{at}" for at in range(17)), "kinds": (32,) * 16 + (64,)}
        for word in ("LOAD_FAST_LOAD_FAST", "STORE_FAST_LOAD_FAST", "STORE_FAST_STORE_FAST"):
            for argument, right in ((0, True), (255, True), (256, False), (15, True), (16 * 16, False)):
                self.argument(f"{word} {argument}", right, 4, "MAKE_CELL 16; RESUME", **fields)
            for first in range(5):
                for second in range(5):
                    self.argument(f"{word} {16 * first + second}", first == second == 0, 8, BEGIN, **FUNCTION)

    def test_names_of_a_frame_without_flags(self):
        for word in ("LOAD_NAME", "STORE_NAME", "DELETE_NAME"):
            self.argument(f"{word} 0", True)
            self.argument(f"{word} 0", flags=3)
        self.argument("LOAD_LOCALS; LOAD_FROM_DICT_OR_DEREF 0", True, 4, "COPY_FREE_VARS 1; RESUME", slots=("a",), kinds=(128,))
        self.argument("LOAD_LOCALS; LOAD_FROM_DICT_OR_DEREF 0", False, 4, "COPY_FREE_VARS 1; RESUME", slots=("a",),
                      kinds=(128,), flags=3)

    def test_counts(self):
        for word in ("COPY", "LIST_APPEND", "LIST_EXTEND", "MAP_ADD", "DICT_MERGE"):
            for argument in (0, 1, 2, 1000):
                self.argument(f"{word} {argument}", argument > 0)
        for argument in (0, 1, 2, 3):
            self.argument(f"SWAP {argument}", argument > 1)
        for word in ("BUILD_LIST", "BUILD_TUPLE", "BUILD_MAP", "CALL"):
            for argument in (0, 1, 300, 2 ** 31, 2 ** 32 - 1):
                self.argument(f"{word} {argument}", True)
        for argument in (0, 1, 1000, 1001, 70000):
            self.argument(f"UNPACK_SEQUENCE {argument}", argument <= 1000)
        for ahead, behind in ((0, 0), (255, 744), (255, 745), (0, 999), (0, 1000), (1, 999)):
            self.argument(f"UNPACK_EX {ahead + 256 * behind}", ahead + behind + 1 <= 1000)

    def test_small_sets(self):
        for word, allowed in (
            ("BINARY_OP", (0, 1, 2, 3, 5, 6, 7, 8, 9, 10, 12, 13, 14, 15, 16, 18, 19, 20, 21, 22, 23, 25)),
            ("COMPARE_OP", (2, 42, 72, 103, 132, 172, 18, 58, 88, 119, 148, 188)), ("CONTAINS_OP", (0, 1)), ("IS_OP", (0, 1)),
            ("CALL_FUNCTION_EX", (0, 1)), ("CALL_INTRINSIC_1", (3, 6)), ("RAISE_VARARGS", (0, 1, 2)), ("RERAISE", (0, 1, 2)),
        ):
            for argument in range(260):
                self.argument(f"{word} {argument}", argument in allowed)

    def test_words_of_generators(self):
        begin, fields = "RETURN_GENERATOR; POP_TOP; RESUME", {"flags": 35}
        for argument in range(8):
            self.argument(f"RESUME {argument}", argument in (0, 1, 2, 5), 6, begin, **fields)
            self.argument(f"RESUME {argument}", argument == 0, 2, flags=3)
            self.argument(f"YIELD_VALUE {argument}", argument < 2, 6, begin, **fields)
            self.argument(f"YIELD_VALUE {argument}", False, 2, flags=3)
        self.argument("GET_YIELD_FROM_ITER", True, 6, begin, **fields)
        self.argument("GET_YIELD_FROM_ITER 1", False, 6, begin, **fields)
        self.argument("GET_YIELD_FROM_ITER", False, 2, flags=19)
        self.argument("SEND e; e: END_SEND", True, 6, begin, **fields)
        self.argument("SEND e; e: END_SEND", False, 2, flags=3)

    def test_the_first_one(self):
        self.wrong(("argument", 2), "RESUME; COPY; SWAP; RETURN_CONST 9")


class BehindTests(JudgedTests):
    """What must stand directly behind something else."""

    def code(self, free=0, right=True):
        names = tuple(f"x{at}" for at in range(free))
        code = made("COPY_FREE_VARS 1; RESUME; RETURN_CONST 0", slots=names, kinds=(128,) * free, flags=3)
        return code if right else changed(code, flags=1)

    def argument(self, text, at, **fields):
        self.wrong(("argument", at), f"RESUME; {text}; RAISE_VARARGS", size=1, **fields)

    def fine(self, text, **fields):
        code = made(f"RESUME; {text}; RAISE_VARARGS", size=1, **fields)
        self.assertNotEqual(judged(code)[0], "argument", text)
        self.assertEqual(judged(code), judge_by_the_book.judged(code))

    def test_calls_by_names(self):
        constants = (("a", "b"), ("a", "a"), ("a", 1), (), "ab", 5, None)
        for at, many, right in ((0, 2, True), (0, 3, True), (0, 1, False), (1, 2, False), (2, 2, False), (3, 0, True),
                                (3, 5, True), (4, 2, False), (5, 2, False), (6, 2, False)):
            text = f"LOAD_CONST {at}; CALL_KW {many}"
            if right:
                self.fine(text, constants=constants)
            else:
                self.argument(text, 4, constants=constants)
        self.argument("LOAD_CONST 0; NOP; CALL_KW 2", 6, constants=constants)
        self.argument("CALL_KW 2; LOAD_CONST 0", 2, constants=constants)
        self.wrong(("argument", 0), "CALL_KW 2; RETURN_CONST 0", size=1)

    def test_dicts_by_keys(self):
        constants = ((1, "a"), (), "ab", 2, (1, 1))
        for at, many, right in ((0, 2, True), (0, 1, False), (0, 3, False), (1, 0, True), (1, 1, False), (2, 2, False),
                                (3, 2, False), (4, 2, True)):
            text = f"LOAD_CONST {at}; BUILD_CONST_KEY_MAP {many}"
            if right:
                self.fine(text, constants=constants)
            else:
                self.argument(text, 4, constants=constants)
        self.argument("LOAD_CONST 0; LOAD_NAME 0; BUILD_CONST_KEY_MAP 2", 6, constants=constants)
        self.argument("BUILD_CONST_KEY_MAP 0", 2)

    def test_functions(self):
        constants = (self.code(), self.code(1), self.code(0, False), None, changed(self.code(), slots=("a",), kinds=(96,)))
        self.fine("LOAD_CONST 0; MAKE_FUNCTION", constants=constants)
        self.argument("MAKE_FUNCTION", 2, constants=constants)
        self.argument("LOAD_CONST 3; MAKE_FUNCTION", 4, constants=constants)
        self.argument("LOAD_CONST 2; MAKE_FUNCTION", 4, constants=constants)
        self.argument("LOAD_CONST 4; MAKE_FUNCTION", 4, constants=constants)
        self.argument("LOAD_CONST 0; NOP; MAKE_FUNCTION", 2, constants=constants)
        self.argument("LOAD_CONST 0", 2, constants=constants)
        self.argument("RETURN_CONST 0; MAKE_FUNCTION", 2, constants=constants)
        self.argument("RETURN_CONST 1", 2, constants=constants)
        self.argument("LOAD_CONST 1; MAKE_FUNCTION", 4, constants=constants)
        self.argument("LOAD_CONST 1; MAKE_FUNCTION; NOP; SET_FUNCTION_ATTRIBUTE 8", 4, constants=constants)
        self.argument("LOAD_CONST 1; MAKE_FUNCTION; SET_FUNCTION_ATTRIBUTE 2", 4, constants=constants)
        self.fine("LOAD_CONST 1; MAKE_FUNCTION; SET_FUNCTION_ATTRIBUTE 8", constants=constants)

    def test_attributes_of_functions(self):
        constants = (self.code(), self.code(2))
        word = "SET_FUNCTION_ATTRIBUTE"
        for chain in ([], [1], [2], [2, 1]):
            rows = "".join(f"; {word} {argument}" for argument in chain)
            self.fine(f"LOAD_CONST 0; MAKE_FUNCTION{rows}", constants=constants)
            self.fine(f"LOAD_CONST 1; MAKE_FUNCTION; {word} 8{rows}", constants=constants)
        for chain, at in (([1, 1], 8), ([1, 2], 8), ([2, 2], 8), ([8], 6), ([2, 8], 8), ([1, 8], 8), ([0], 6), ([3], 6),
                          ([4], 6), ([16], 6)):
            rows = "".join(f"; {word} {argument}" for argument in chain)
            self.argument(f"LOAD_CONST 0; MAKE_FUNCTION{rows}", at, constants=constants)
        for chain, at in (([8], 8), ([2, 8], 10), ([2, 1, 1], 12), ([1, 2], 10)):
            rows = "".join(f"; {word} {argument}" for argument in chain)
            self.argument(f"LOAD_CONST 1; MAKE_FUNCTION; {word} 8{rows}", at, constants=constants)
        for argument in (8, 2, 1):
            self.argument(f"{word} {argument}", 2)
            self.argument(f"LOAD_CONST 0; MAKE_FUNCTION; NOP; {word} {argument}", 8, constants=constants)

    def test_names_of_a_class(self):
        fields = {"slots": ("a",), "kinds": (128,)}
        begin = "COPY_FREE_VARS 1; RESUME"
        for text, at in (
            ("LOAD_LOCALS", 4), ("LOAD_LOCALS; NOP; LOAD_FROM_DICT_OR_DEREF 0", 4), ("LOAD_FROM_DICT_OR_DEREF 0", 4),
            ("LOAD_LOCALS; LOAD_FROM_DICT_OR_DEREF 1", 6), ("LOAD_NAME 0; LOAD_FROM_DICT_OR_DEREF 0", 6),
            ("LOAD_LOCALS; LOAD_DEREF 0", 4),
        ):
            self.wrong(("argument", at), f"{begin}; {text}; RETURN_CONST 0", size=1, **fields)
        self.right(f"{begin}; LOAD_LOCALS; LOAD_FROM_DICT_OR_DEREF 0; RETURN_VALUE", **fields)

    def test_where_turns_lead(self):
        begin = "RESUME; LOAD_NAME 0; GET_ITER; FOR_ITER e; POP_TOP; POP_TOP; RETURN_CONST 0; "
        self.right(begin + "e: END_FOR; POP_TOP; RETURN_CONST 0")
        for end in ("e: END_FOR; NOP; POP_TOP; RETURN_CONST 0", "e: NOP; END_FOR; POP_TOP; RETURN_CONST 0",
                    "e: POP_TOP; RETURN_CONST 0", "e: END_FOR; RETURN_CONST 0", "NOP; e:", "e:", "e: END_FOR",
                    "e: BUILD_LIST 300; RETURN_CONST 0"):
            self.wrong(("argument", 6), begin + end, size=2)
        # Into caches, and behind the end.
        self.wrong(("argument", 6), "RESUME; LOAD_NAME 0; GET_ITER; FOR_ITER 1; TO_BOOL; RETURN_CONST 0", size=2)
        self.wrong(("argument", 6), "RESUME; LOAD_NAME 0; GET_ITER; FOR_ITER 9; RETURN_CONST 0", size=2)

    def test_where_sends_lead(self):
        begin = "RETURN_GENERATOR; POP_TOP; RESUME; LOAD_CONST 0; GET_YIELD_FROM_ITER; LOAD_CONST 0; SEND e; "
        self.right(begin + "RETURN_VALUE; e: END_SEND; RETURN_VALUE", flags=35)
        for end in ("RETURN_VALUE; e: NOP; END_SEND; RETURN_VALUE", "RETURN_VALUE; e:", "RETURN_VALUE; e: END_FOR; POP_TOP; RETURN_VALUE"):
            self.wrong(("argument", 12), begin + end, size=2, flags=35)


class JumpTests(JudgedTests):
    def test_into_caches_and_between(self):
        for word in ("JUMP_FORWARD", "POP_JUMP_IF_NONE", "POP_JUMP_IF_NOT_NONE"):
            # What is jumped over lies behind the jump with its cache.
            body = f"RESUME; LOAD_NAME 0; {word} {{}}; TO_BOOL; POP_TOP; RETURN_CONST 0"
            for more in range(8):
                code = made(body.format(more), size=1)
                if more in (1, 2, 3, 6, 7):
                    self.wrong(("jump", 4), code)
                else:
                    self.assertNotEqual(judged(code)[0], "jump")

    def test_behind_the_end_and_ahead_of_the_begin(self):
        self.wrong(("jump", 2), "RESUME; JUMP_FORWARD 1; RETURN_CONST 0", size=1)
        self.wrong(("jump", 2), "RESUME; JUMP_FORWARD 1000; RETURN_CONST 0", size=1)
        self.wrong(("jump", 4), "RESUME; NOP; JUMP_BACKWARD 5; RETURN_CONST 0", size=1)
        self.wrong(("jump", 4), "RESUME; NOP; JUMP_BACKWARD_NO_INTERRUPT 70000; RETURN_CONST 0", size=1)

    def test_into_an_instruction(self):
        # Between the EXTENDED_ARG and its instruction.
        self.wrong(("jump", 2), "RESUME; JUMP_FORWARD 1; BUILD_LIST 300; RETURN_CONST 0", size=1)
        self.wrong(("jump", 2), "RESUME; JUMP_FORWARD 1; TO_BOOL; RETURN_CONST 0", size=1)

    def test_to_what_must_stand_behind_something(self):
        code = made(NOTHING, flags=3)
        free = changed(code, slots=("x",), kinds=(128,))
        for rows in (
            "LOAD_CONST 0; l: CALL_KW 2", "LOAD_CONST 0; l: BUILD_CONST_KEY_MAP 2", "LOAD_CONST 1; l: MAKE_FUNCTION",
            "LOAD_CONST 2; MAKE_FUNCTION; l: SET_FUNCTION_ATTRIBUTE 8",
            "LOAD_CONST 1; MAKE_FUNCTION; l: SET_FUNCTION_ATTRIBUTE 2",
            "LOAD_CONST 1; MAKE_FUNCTION; l: SET_FUNCTION_ATTRIBUTE 1",
        ):
            text = f"RESUME; LOAD_NAME 0; POP_JUMP_IF_NONE l; {rows}; RETURN_CONST 3"
            constants = (("a", "b"), code, free, None)
            self.wrong(("jump", 4), text, size=1, constants=constants)
            handlers = [("b", "l", "l", 0, False)]
            marked = f"RESUME; b: LOAD_NAME 0; {rows}; RETURN_CONST 3"
            self.wrong(("jump", 2), marked, handlers, size=1, constants=constants)
        text = "COPY_FREE_VARS 1; RESUME; LOAD_NAME 0; POP_JUMP_IF_NONE l; LOAD_LOCALS; l: LOAD_FROM_DICT_OR_DEREF 0; RETURN_VALUE"
        self.wrong(("jump", 6), text, size=1, slots=("a",), kinds=(128,))
        # The POP_TOP behind an END_FOR may be reached otherwise, too.
        self.right("RESUME; LOAD_NAME 0; GET_ITER; FOR_ITER e; POP_JUMP_IF_NONE p; RETURN_VALUE; e: END_FOR; p: POP_TOP; RETURN_CONST 0")

    def test_into_the_prefix(self):
        fields = {"flags": 35, "slots": ("a", "b"), "kinds": (64, 128)}
        begin = "a: COPY_FREE_VARS 1; b: MAKE_CELL 0; c: RETURN_GENERATOR; d: POP_TOP; e: RESUME; f: NOP; "
        for label in "abcde":
            self.wrong(("jump", 12), begin + f"JUMP_BACKWARD {label}", size=1, **fields)
            self.wrong(("jump", 10), begin + "g: LOAD_DEREF 0; RETURN_VALUE", [("f", None, label, 0, False)], size=1, **fields)
        self.right(begin + "JUMP_BACKWARD f", **fields)
        self.wrong(("jump", 2), "a: RESUME; JUMP_BACKWARD a")

    def test_targets_of_handlers(self):
        rows = "RESUME; a: LOAD_NAME 0; TO_BOOL; RETURN_VALUE; h: POP_TOP; RETURN_CONST 0"
        self.right(rows, [("a", "h", "h", 0, False)])
        code = made(rows, [("a", "h", "h", 0, False)])
        for target in (3, 4, 5, 9, 200):
            number = (target,) if target < 64 else (64 | target >> 6, target & 63)
            self.wrong(("jump", 2), changed(code, handlers=(129, 6, *number, 0)))

    def test_the_least_of_both(self):
        rows = "RESUME; a: LOAD_NAME 0; b: POP_JUMP_IF_NONE 99; c: LOAD_NAME 0; RETURN_VALUE"
        self.wrong(("jump", 4), rows, size=1)
        self.wrong(("jump", 4), changed(made(rows, size=1), handlers=(128 + 4, 1, 60, 0)))
        self.wrong(("jump", 2), changed(made(rows, size=1), handlers=(128 + 1, 1, 60, 0)))


class PrefixTests(JudgedTests):
    fields = {"flags": 35, "argcount": 1, "slots": ("a", "b", "c", "d"), "kinds": (96, 32, 64, 128)}
    due = ["COPY_FREE_VARS 1", "MAKE_CELL 0", "MAKE_CELL 2", "RETURN_GENERATOR", "POP_TOP", "RESUME"]

    def prefix(self, rows, at, **fields):
        self.wrong(("prefix", at), "; ".join([*rows, "RETURN_CONST 0"]), size=1, **(fields or self.fields))

    def test_all_of_it(self):
        self.right("; ".join([*self.due, "RETURN_CONST 0"]), **self.fields)

    def test_missing(self):
        for at in range(6):
            self.prefix(self.due[:at] + self.due[at + 1:], 2 * at)

    def test_exchanged(self):
        for at in range(5):
            rows = self.due[:at] + [self.due[at + 1], self.due[at]] + self.due[at + 2:]
            self.prefix(rows, 2 * at)

    def test_twice(self):
        for at in range(6):
            self.prefix(self.due[:at + 1] + self.due[at:], 2 * at + 2 if at != 5 else 12)

    def test_something_else(self):
        for at, row in ((0, "COPY_FREE_VARS 2"), (0, "NOP"), (1, "MAKE_CELL 2"), (3, "NOP"), (5, "RESUME 1"), (5, "NOP")):
            self.prefix(self.due[:at] + [row] + self.due[at + 1:], 2 * at)
        self.prefix(["COPY_FREE_VARS 0", "RESUME"], 0, flags=3)
        self.prefix(["NOP"], 0, flags=0)

    def test_elsewhere(self):
        for row in ("COPY_FREE_VARS 1", "MAKE_CELL 0", "MAKE_CELL 2", "RETURN_GENERATOR", "RESUME"):
            self.prefix(self.due + ["NOP", row], 14)
            self.prefix(self.due + ["NOP", row, "RESUME", "NOP"], 14)
        self.right("; ".join(self.due + ["NOP", "RESUME 1", "RESUME 2", "RESUME 5", "RETURN_CONST 0"]), **self.fields)

    def test_a_code_that_ends_among_them(self):
        for at in range(1, 6):
            self.wrong(("end", 2 * at - 2), "; ".join(self.due[:at]), size=1, **self.fields)
        self.wrong(("prefix", 0), "RESUME", size=1, flags=35)


class EndTests(JudgedTests):
    def test_the_last_instruction(self):
        for row in ("NOP", "POP_TOP", "LOAD_CONST 0", "CALL 0", "TO_BOOL", "PUSH_NULL", "CLEANUP_THROW"):
            self.wrong(("end", 4), f"RESUME; NOP; {row}", size=1)
        self.wrong(("end", 0), "RESUME", size=1)
        self.wrong(("end", 2), "RESUME; BUILD_LIST 300", size=1)

    def test_those_that_do_not_go_on(self):
        for rows in ("RETURN_CONST 0", "LOAD_CONST 0; RETURN_VALUE", "LOAD_CONST 0; RAISE_VARARGS 1", "RAISE_VARARGS 0",
                     "a: NOP; JUMP_BACKWARD a", "a: NOP; JUMP_BACKWARD_NO_INTERRUPT a"):
            self.right(f"RESUME; {rows}")


if __name__ == "__main__":
    unittest.main()
