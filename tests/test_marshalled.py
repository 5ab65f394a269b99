"""Codes written to bytes, and read from them."""

import marshal
import sys
import types
import unittest

from codewalk.assembly import compiled
from codewalk.codes import Code
from codewalk.errors import NoBytes, NoCode, NoProgram
from codewalk.marshalled import read, written
from tests.codes import changed, codes_in
from tests.programs import Maker
from tests.samples import numbers
from tests.test_check_wrong import junk
from tests.test_codes import ALL_CHARACTERS, FIELDS, VALUES, code_with, codes, tuples

SMALL = Code(1, 0, 3, 3, (149, 0), (), (), ("a",), (32,), "f", "g", 9, (1, 2), (5,))
SMALL_BYTES = (
    99, 1, 0, 0, 0, 0, 0, 0, 0, 0, 0, 0, 0, 3, 0, 0, 0, 3, 0, 0, 0, 115, 2, 0, 0, 0, 149, 0, 40, 0, 0, 0, 0, 40, 0, 0, 0,
    0, 40, 1, 0, 0, 0, 117, 1, 0, 0, 0, 97, 115, 1, 0, 0, 0, 32, 117, 6, 0, 0, 0, 60, 116, 114, 101, 101, 62, 117, 1, 0,
    0, 0, 102, 117, 1, 0, 0, 0, 103, 9, 0, 0, 0, 115, 2, 0, 0, 0, 1, 2, 115, 1, 0, 0, 0, 5,
)

# Where the parts of those bytes begin.
NUMBER_PLACES = {"argcount": 1, "zero": 5, "onlycount": 9, "stacksize": 13, "flags": 17, "line": 78}
CODE, CONSTANTS, NAMES, SLOTS, SLOT, KINDS, FILE, NAME, PATH, LINES, HANDLERS = (21, 28, 33, 38, 43, 49, 55, 66, 72, 82, 89)
END = len(SMALL_BYTES)


def four(number):
    return tuple((number % 2 ** 32).to_bytes(4, "little"))


def text(characters):
    return (117, *four(len(characters)), *characters.encode())


def digits(number):
    """An integer with digits of 15 bits, whether it needs them or not."""
    found, rest = [], abs(number)
    while rest:
        found += (rest % 32768).to_bytes(2, "little")
        rest //= 32768
    return (108, *four((len(found) // 2) * (1 if number >= 0 else -1)), *found)


def with_constants(*elements):
    """The bytes of the small code with these written constants."""
    many = four(len(elements))
    return SMALL_BYTES[:CONSTANTS + 1] + many + sum(elements, ()) + SMALL_BYTES[NAMES:]


class WrittenTests(unittest.TestCase):
    def test_a_whole_code(self):
        self.assertEqual(written(SMALL), SMALL_BYTES)
        self.assertEqual(written(code=SMALL), SMALL_BYTES)
        self.assertIs(type(written(SMALL)), tuple)

    def test_constants(self):
        for constant, due in (
            (None, (78,)), (True, (84,)), (False, (70,)), (0, (105, 0, 0, 0, 0)), (-1, (105, 255, 255, 255, 255)),
            (258, (105, 2, 1, 0, 0)), (2 ** 31 - 1, (105, 255, 255, 255, 127)), (-2 ** 31, (105, 0, 0, 0, 128)),
            (2 ** 31, (108, 3, 0, 0, 0, 0, 0, 0, 0, 2, 0)), (-2 ** 31 - 1, (108, 253, 255, 255, 255, 1, 0, 0, 0, 2, 0)),
            (2 ** 45 - 1, (108, 3, 0, 0, 0, 255, 127, 255, 127, 255, 127)),
            (2 ** 45, (108, 4, 0, 0, 0, 0, 0, 0, 0, 0, 0, 1, 0)), ("", (117, 0, 0, 0, 0)), ("ab", (117, 2, 0, 0, 0, 97, 98)),
            ((), (40, 0, 0, 0, 0)), ((None, (True,)), (40, 2, 0, 0, 0, 78, 40, 1, 0, 0, 0, 84)), (SMALL, SMALL_BYTES),
        ):
            code = changed(SMALL, constants=(constant,))
            self.assertEqual(written(code), with_constants(due))
            self.assertEqual(read(with_constants(due)), code)

    def test_each_field(self):
        for field, at in NUMBER_PLACES.items():
            if field != "zero":
                for number in (0, 1, 255, 256, 2 ** 31 - 1):
                    data = written(changed(SMALL, **{field: number}))
                    self.assertEqual(data, SMALL_BYTES[:at] + four(number) + SMALL_BYTES[at + 4:])
        long = tuple(range(256)) * 2
        for field, at, size in (("code", CODE, 2), ("lines", LINES, 2), ("handlers", HANDLERS, 1)):
            data = written(changed(SMALL, **{field: long}))
            self.assertEqual(data, SMALL_BYTES[:at] + (115, *four(512), *long) + SMALL_BYTES[at + 5 + size:])
        for field, at in (("name", NAME), ("path", PATH)):
            for word in ("", "x y", ALL_CHARACTERS, "long" * 100):
                data = written(changed(SMALL, **{field: word}))
                self.assertEqual(data, SMALL_BYTES[:at] + text(word) + SMALL_BYTES[at + 6:])
        self.assertEqual(written(changed(SMALL, names=("a", ""))),
                         SMALL_BYTES[:NAMES] + (40, *four(2)) + text("a") + text("") + SMALL_BYTES[SLOTS:])
        data = written(changed(SMALL, slots=("b", "c"), kinds=(96, 128)))
        due = (40, *four(2)) + text("b") + text("c") + (115, *four(2), 96, 128)
        self.assertEqual(data, SMALL_BYTES[:SLOTS] + due + SMALL_BYTES[FILE:])

    def test_what_is_no_code(self):
        for thing in [*junk(), None, True, 5, "code", (), [], SMALL_BYTES, Code, VALUES]:
            with self.assertRaises(NoCode) as caught:
                written(thing)
            self.assertEqual(caught.exception.field, "code")

    def test_unequal_codes_have_unequal_bytes(self):
        others = {
            "argcount": 1, "onlycount": 0, "stacksize": 8, "flags": 0, "code": (149, 0), "constants": (None, 5, "t"),
            "names": ("n",), "slots": ("a", "b"), "kinds": (32, 32), "name": "g", "path": "f", "line": 11, "lines": (),
            "handlers": (),
        }
        found = [written(code_with())] + [written(code_with(**{field: value})) for field, value in others.items()]
        for constants in ([1], [True], ["1"], [(1,)], [(True,)], [None], [()], [1, 1], [SMALL], [(None,)], [-1], [2 ** 40]):
            found.append(written(code_with(constants=constants)))
        self.assertEqual(len(set(found)), len(found))
        self.assertEqual(set(others), set(FIELDS))


class BothTests(unittest.TestCase):
    def both(self, code):
        data = written(code)
        for given in (data, list(data)):
            kept = list(given)
            found = read(given)
            self.assertEqual(found, code)
            self.assertEqual(list(given), kept)
        self.assertEqual(written(found), data)
        return found

    def test_integers_at_every_edge(self):
        edges = [2 ** bits + more for bits in (0, 1, 14, 15, 16, 29, 30, 31, 32, 44, 45, 46, 60, 75, 90, 3000)
                 for more in (-1, 0, 1)] + [10 ** 999, 10 ** 999 - 1]
        constants = tuple(edges) + tuple(-edge for edge in edges)
        found = self.both(code_with(constants=constants))
        self.assertEqual(found.constants, constants)

    def test_all_fields_and_kinds_of_constants(self):
        constants = (None, True, False, 0, "", ALL_CHARACTERS, (), (1, (None, ("x", ())), True), code_with(), "x" * 5000)
        found = self.both(code_with(constants=constants))
        self.assertEqual(repr(found.constants[:8]), repr(constants[:8]))
        for size in (0, 1, 255, 256, 70000):
            self.both(code_with(code=(7,) * size, lines=(1,) * size, names=("n",) * min(size, 300)))

    def test_tuples_and_codes_up_to_a_hundred_deep(self):
        for depth in (1, 2, 99, 100):
            self.both(code_with(constants=(tuples(depth), 1, tuples(depth, 5))))
            self.both(codes(depth))
        deep = codes(100)
        inner = deep
        while isinstance(inner.constants[0], Code):
            inner = inner.constants[0]
        data = written(code_with(constants=(tuples(100),)))
        self.assertEqual(read(data).constants, (tuples(100),))

    def test_compiled_programs(self):
        pick, many = numbers(61), 0
        while many < 40:
            tree = Maker(pick, 60).program()
            try:
                code = compiled(tree, pick.random() < 0.5)
            except NoProgram:
                continue
            many += 1
            self.both(code)

    @unittest.skipUnless(sys.version_info[:2] == (3, 13), "the form of the code is that of CPython 3.13")
    def test_marshal_reads_the_same(self):
        pick, many = numbers(62), 0
        while many < 40:
            tree = Maker(pick, 60).program()
            try:
                code = compiled(tree)
            except NoProgram:
                continue
            many += 1
            self.compare(code, marshal.loads(bytes(written(code))))

    def compare(self, code, other):
        self.assertIsInstance(other, types.CodeType)
        self.assertEqual((code.argcount, 0, code.onlycount, code.stacksize, code.flags, code.name, code.path, code.line),
                         (other.co_argcount, other.co_posonlyargcount, other.co_kwonlyargcount, other.co_stacksize,
                          other.co_flags, other.co_name, other.co_qualname, other.co_firstlineno))
        self.assertEqual((bytes(code.code), code.names, bytes(code.lines), bytes(code.handlers), "<tree>"),
                         (other.co_code, other.co_names, other.co_linetable, other.co_exceptiontable, other.co_filename))
        self.assertEqual(len(code.constants), len(other.co_consts))
        for constant, held in zip(code.constants, other.co_consts):
            if isinstance(constant, Code):
                self.compare(constant, held)
            else:
                self.assertEqual(repr(constant), repr(held))


class RefusedTests(unittest.TestCase):
    def refused(self, data, at):
        with self.assertRaises(NoBytes, msg=(data, at)) as caught:
            read(data)
        self.assertEqual(caught.exception.at, at, data)

    def test_what_is_no_row(self):
        for thing in [None, 5, True, "abc", b"abc", {}, set(), SMALL, Code, 1.5, range(3), iter(())]:
            self.refused(thing, -1)

    def test_what_is_no_byte(self):
        for thing in (-1, 256, True, None, "a", (1,), [], 1.0, b"a"):
            self.refused([thing], 0)
            self.refused(list(SMALL_BYTES) + [thing], END)
            # It goes ahead of all else.
            self.refused([5, 5, thing, thing], 2)
        self.refused(SMALL_BYTES[:50] + (300,) + SMALL_BYTES[51:60] + (-4,), 50)

    def test_cut_off_anywhere(self):
        for size in range(END):
            self.refused(SMALL_BYTES[:size], size)

    def test_more_behind(self):
        for more in ((0,), (99,), SMALL_BYTES):
            self.refused(SMALL_BYTES + more, END)

    def test_the_letter_of_a_code(self):
        for letter in (0, 98, 227, 40, 117, 67):
            self.refused((letter,) + SMALL_BYTES[1:], 0)
            self.refused((letter,), 0)

    def test_letters_of_parts(self):
        for at, right in ((CODE, 115), (CONSTANTS, 40), (NAMES, 40), (SLOTS, 40), (SLOT, 117), (KINDS, 115), (FILE, 117),
                          (NAME, 117), (PATH, 117), (LINES, 115), (HANDLERS, 115)):
            for letter in (78, 84, 70, 105, 108, 117, 115, 40, 99, 0, 255, 41, 122, 97, 243):
                if letter != right:
                    self.refused(SMALL_BYTES[:at] + (letter,) + SMALL_BYTES[at + 1:], at)

    def test_letters_among_constants(self):
        for letter in (0, 115, 41, 122, 97, 65, 103, 60, 91, 123, 233, 255):
            self.refused(with_constants((letter, 0, 0, 0, 0)), CONSTANTS + 5)
            self.refused(with_constants((78,), (40, *four(2), 84, letter)), CONSTANTS + 5 + 1 + 5 + 1)
        # Codes stand among the constants, not in tuples.
        self.refused(with_constants((40, *four(1)) + SMALL_BYTES), CONSTANTS + 10)

    def test_numbers_below_zero(self):
        for field, at in NUMBER_PLACES.items():
            self.refused(SMALL_BYTES[:at] + four(-1) + SMALL_BYTES[at + 4:], at)
            self.refused(SMALL_BYTES[:at] + four(-2 ** 31) + SMALL_BYTES[at + 4:], at)
        for number in (1, 256, 2 ** 24):
            self.refused(SMALL_BYTES[:5] + four(number) + SMALL_BYTES[9:], 5)

    def test_lengths_below_zero(self):
        for at in (CODE, CONSTANTS, NAMES, SLOTS, SLOT, KINDS, FILE, NAME, PATH, LINES, HANDLERS):
            for length in (-1, -2 ** 31):
                self.refused(SMALL_BYTES[:at + 1] + four(length) + SMALL_BYTES[at + 5:], at)
        for letter in (117, 40):
            self.refused(with_constants((letter, *four(-5))), CONSTANTS + 5)

    def test_lengths_that_lead_behind_the_end(self):
        for at in (CODE, SLOT, KINDS, FILE, NAME, PATH, LINES, HANDLERS):
            self.refused(SMALL_BYTES[:at + 1] + four(END) + SMALL_BYTES[at + 5:], END)
        self.refused(with_constants((117, *four(1000), 10, 37)), len(with_constants((117, *four(1000), 10, 37))))
        # Whatever is in it.
        data = SMALL_BYTES[:KINDS + 1] + four(2 ** 31 - 1) + SMALL_BYTES[KINDS + 5:]
        self.refused(data, END)
        data = SMALL_BYTES[:FILE + 1] + four(1000) + SMALL_BYTES[FILE + 5:]
        self.refused(data, END)
        long = with_constants(digits(2 ** 40))[:CONSTANTS + 11]
        self.refused(long[:-1] + (255,), len(long))
        for cut in range(1, 11):
            data = with_constants((108, *four(-3), 255, 255, 255, 255, 0, 0))[:CONSTANTS + 5 + cut]
            self.refused(data, len(data))
        data = with_constants((105, 1, 2, 3, 4))[:CONSTANTS + 8]
        self.refused(data, len(data))

    def test_strings_with_other_characters(self):
        for character in (0, 9, 10, 31, 37, 127, 128, 255):
            for at in (SLOT, NAME, PATH):
                self.refused(SMALL_BYTES[:at + 5] + (character,) + SMALL_BYTES[at + 6:], at)
            self.refused(with_constants((117, *four(3), 97, character, 97)), CONSTANTS + 5)
            self.refused(with_constants((40, *four(1), 117, *four(1), character)), CONSTANTS + 10)
        for character in (32, 36, 38, 126):
            self.assertEqual(read(SMALL_BYTES[:NAME + 5] + (character,) + SMALL_BYTES[NAME + 6:]).name, chr(character))

    def test_another_string_than_the_file(self):
        for word in ("", "<tree", "<tree>>", "<trEe>", "tree", "<tree> "):
            self.refused(SMALL_BYTES[:FILE] + text(word) + SMALL_BYTES[NAME:], FILE)

    def test_another_number_of_kinds(self):
        for kinds in ((), (32, 32)):
            self.refused(SMALL_BYTES[:KINDS] + (115, *four(len(kinds)), *kinds) + SMALL_BYTES[FILE:], KINDS)

    def test_integers_with_wrong_digits(self):
        at = CONSTANTS + 5
        for wrong in (
            (108, *four(0)), digits(1), digits(-1), digits(0), digits(2 ** 31 - 1), digits(-2 ** 31),
            (108, *four(4), 1, 0, 1, 0, 1, 0, 0, 0), (108, *four(-4), 1, 0, 1, 0, 1, 0, 0, 0), (108, *four(1), 0, 0),
            (108, *four(3), 0, 128, 0, 0, 2, 0), (108, *four(3), 0, 0, 0, 255, 2, 0), (108, *four(3), 0, 0, 0, 0, 0, 128),
        ):
            self.refused(with_constants(wrong), at)
            self.refused(with_constants((78,), (40, *four(1)) + wrong), at + 6)
        for right in (2 ** 31, -2 ** 31 - 1, 2 ** 45, -(2 ** 300)):
            self.assertEqual(read(with_constants(digits(right))).constants, (right,))

    def test_nested_too_deep(self):
        row = (40, *four(1))
        self.refused(with_constants(row * 100 + (40, *four(0))), CONSTANTS + 5 + 500)
        self.refused(with_constants(row * 101 + (78,)), CONSTANTS + 5 + 500)
        # At the letter, even if nothing comes behind it.
        data = with_constants(row * 101)[:CONSTANTS + 5 + 501]
        self.refused(data, CONSTANTS + 5 + 500)
        self.assertEqual(read(with_constants(row * 99 + (40, *four(0)))).constants, (tuples(99, ()),))
        data = SMALL_BYTES
        for _ in range(99):
            data = with_constants(data)
        self.assertEqual(written(read(data)), data)
        self.refused(with_constants(data), 100 * (CONSTANTS + 5))

    def test_several_faults_the_first_one(self):
        data = list(SMALL_BYTES)
        for at in (HANDLERS, PATH, NAME, FILE, KINDS, SLOT, NAMES, CODE, 17, 5):
            data[at] = 200 if at not in (17, 5) else data[at]
            if at in (17, 5):
                data[at + 3] = 200
            self.refused(data, at)
        self.refused(data[:-3], 5)

    def test_one_byte_changed_left_out_or_put_in(self):
        pick = numbers(63)
        codes_read = 0
        base = written(code_with(constants=(None, 5, 2 ** 40, "text", (1, ("a", True)), SMALL)))
        for _ in range(3000):
            data, at = list(base), pick.randrange(len(base))
            match pick.randint(0, 2):
                case 0:
                    data[at] = pick.choice((0, 1, 37, 40, 78, 99, 105, 108, 115, 117, 128, 255, (data[at] + 1) % 256))
                case 1:
                    del data[at]
                case 2:
                    data.insert(at, pick.choice((0, 1, 78, 255)))
            try:
                code = read(data)
            except NoBytes as error:
                # What is behind the place is not looked at, but by an element that begins ahead of it.
                self.assertTrue(0 <= error.at <= len(data))
                continue
            codes_read += 1
            self.assertEqual(written(code), tuple(data))
        self.assertGreater(codes_read, 100)

    def test_the_place_is_the_first_from_which_nothing_goes_on(self):
        """Up to an element that is wrong, all bytes are those of some code: other ones behind them lead further."""
        base = written(code_with(constants=(None, 5, "text", (1, ("a", True)))))
        for at in range(len(base)):
            data = base[:at] + (255,) + base[at + 1:]
            try:
                read(data)
            except NoBytes as error:
                self.assertLessEqual(error.at, len(data))
                if error.at > 0:
                    self.refused(data[:error.at], error.at)


class AllCodesTests(unittest.TestCase):
    def test_codes_in_codes_come_back(self):
        code = codes(5)
        found = read(written(code))
        self.assertEqual(len(codes_in(found)), 5)
        self.assertEqual(codes_in(found), codes_in(code))


if __name__ == "__main__":
    unittest.main()
