"""Code objects: what they keep, what they refuse, and which are equal."""

import unittest

from codewalk.codes import Code
from codewalk.errors import NoCode
from tests.samples import numbers
from tests.test_check_wrong import junk

# Objects of all sorts that are no rows.
JUNK = [thing for thing in junk() if not isinstance(thing, tuple)]

FIELDS = (
    "argcount", "onlycount", "stacksize", "flags", "code", "constants", "names", "slots", "kinds", "name", "path",
    "line", "lines", "handlers",
)
NUMBERS = ("argcount", "onlycount", "stacksize", "flags", "line")
BYTES = ("code", "kinds", "lines", "handlers")
STRINGS = ("name", "path")
ROWS = ("names", "slots")

VALUES = {
    "argcount": 2, "onlycount": 1, "stacksize": 7, "flags": 3, "code": (149, 0, 36, 0), "constants": (None, 5, "s"),
    "names": ("n", "m"), "slots": ("a", ".0"), "kinds": (32, 64), "name": "f", "path": "f.<locals>.g", "line": 12,
    "lines": (232, 0), "handlers": (128, 1, 2, 0),
}
ALL_CHARACTERS = "".join([chr(at) for at in range(32, 127) if at != 37])


def code_with(**changes):
    return Code(**{**VALUES, **changes})


def tuples(depth, value=None):
    for _ in range(depth):
        value = (value,)
    return value


def codes(depth):
    """A code in which codes are so deep, itself counted."""
    found = code_with()
    for _ in range(depth - 1):
        found = code_with(constants=[found, 1])
    return found


class KeepingTests(unittest.TestCase):
    def test_all_fields(self):
        by_name, by_place = code_with(), Code(*[VALUES[field] for field in FIELDS])
        for field in FIELDS:
            self.assertEqual(getattr(by_name, field), VALUES[field])
            self.assertEqual(getattr(by_place, field), VALUES[field])
        self.assertEqual(by_name, by_place)

    def test_rows_become_tuples(self):
        lists = {field: list(value) if isinstance(value, tuple) else value for field, value in VALUES.items()}
        found = Code(**lists)
        for field in FIELDS:
            self.assertEqual(getattr(found, field), VALUES[field])
            self.assertIs(type(getattr(found, field)), type(VALUES[field]))
        self.assertEqual(found, code_with())

    def test_later_changes_have_no_effect(self):
        lists = {field: list(value) if isinstance(value, tuple) else value for field, value in VALUES.items()}
        found = Code(**lists)
        for value in lists.values():
            if isinstance(value, list):
                value.append(value[0])
        self.assertEqual(found, code_with())
        for field in FIELDS:
            self.assertEqual(getattr(found, field), VALUES[field])

    def test_what_is_allowed(self):
        for field in NUMBERS:
            for value in (0, 1, 2 ** 31 - 1):
                self.assertEqual(getattr(code_with(**{field: value}), field), value)
        for field in STRINGS:
            for value in ("", "a b", ALL_CHARACTERS, "a" * 500):
                self.assertEqual(getattr(code_with(**{field: value}), field), value)
        for field in ("code", "lines", "handlers"):
            for value in ((), (0,), tuple(range(256))):
                self.assertEqual(getattr(code_with(**{field: value}), field), value)
        for value in ((), (ALL_CHARACTERS, "", "1", "a", "a")):
            self.assertEqual(code_with(names=value).names, value)
            self.assertEqual(code_with(slots=value, kinds=(0,) * len(value)).slots, value)
        constants = (None, True, False, 0, -1, 10 ** 999, "", ALL_CHARACTERS, (), (1, (None, ("x", ())), True))
        constants = constants + (codes(2),)
        self.assertEqual(repr(code_with(constants=constants).constants[:-1]), repr(constants[:-1]))
        self.assertIs(code_with(constants=constants).constants[-1], constants[-1])

    def test_constants_up_to_a_hundred_deep(self):
        for depth in (1, 2, 99, 100):
            self.assertEqual(code_with(constants=(tuples(depth),)).constants, (tuples(depth),))
            self.assertEqual(code_with(constants=(tuples(depth, 1), tuples(depth - 1))), code_with(
                constants=(tuples(depth, 1), tuples(depth - 1))))
            self.assertEqual(codes(depth), codes(depth))
            self.assertEqual(code_with(constants=(tuples(depth),) * 3 + (codes(99),)).line, 12)


class RefusingTests(unittest.TestCase):
    def refused(self, field, **changes):
        with self.assertRaises(NoCode, msg=list(changes)) as caught:
            code_with(**changes)
        self.assertEqual(caught.exception.field, field, list(changes))

    def test_numbers(self):
        for field in NUMBERS:
            for value in [*junk(), None, True, False, -1, 2 ** 31, 10 ** 30, "1", [], ()]:
                self.refused(field, **{field: value})

    def test_strings(self):
        for field in STRINGS:
            for value in [*junk(), None, True, 1, [], ["a"]]:
                self.refused(field, **{field: value})
            for value in ("%", "a%b", "\n", "\t", "\x7f", "\x1f", "\x00", "\u00e9", "\u2028", "\uff41"):
                self.refused(field, **{field: value})

    def test_bytes(self):
        for field in BYTES:
            for value in [*JUNK, None, True, 1, "ab", [-1], [256], [True], [0, None], ["a"], [(1,)], [1.0]]:
                self.refused(field, **{field: value})

    def test_rows_of_strings(self):
        for field in ROWS:
            for value in [*JUNK, None, True, 1, "ab", [1], ["a", None], ["a", "%"], [["a"]], [("a",)], ["\u00e9"]]:
                self.refused(field, **{field: value})

    def test_constants(self):
        for value in [*JUNK, None, True, 1, "ab"]:
            self.refused("constants", constants=value)
        for value in JUNK:
            self.refused("constants", constants=[value])
            self.refused("constants", constants=(1, (2, (value,))))
        for value in ([], [1], ([],), "%", ("a", "\n"), (1, ("\u00e9",)), {}, Code):
            self.refused("constants", constants=[value])
        # Codes stand among the constants alone, not in tuples.
        self.refused("constants", constants=[(code_with(),)])

    def test_constants_that_are_too_deep(self):
        self.refused("constants", constants=[tuples(101)])
        self.refused("constants", constants=[1, (2, tuples(100))])
        self.refused("constants", constants=[tuples(101, ())])
        self.refused("constants", constants=[tuples(100, ())])
        self.refused("constants", constants=[tuples(100000)])
        self.refused("constants", constants=[codes(100)])
        self.refused("constants", constants=[codes(3), codes(100)])

    def test_as_many_kinds_as_slots(self):
        self.refused("kinds", kinds=())
        self.refused("kinds", kinds=(32,))
        self.refused("kinds", kinds=(32, 32, 32))
        self.refused("kinds", slots=())
        self.refused("kinds", slots=("a",), name=5)

    def test_the_first_of_two(self):
        wrong = {field: "" if field not in STRINGS else 5 for field in FIELDS}
        for at, first in enumerate(FIELDS):
            for second in FIELDS[at + 1:]:
                self.refused(first, **{first: wrong[first], second: wrong[second]})
        pick = numbers(21)
        for _ in range(100):
            chosen = pick.sample(FIELDS, 3)
            self.refused(min(chosen, key=FIELDS.index), **{field: wrong[field] for field in chosen})


class EqualityTests(unittest.TestCase):
    def unlike(self, one, other):
        self.assertFalse(one == other)
        self.assertFalse(other == one)
        self.assertTrue(one != other)

    def test_each_field(self):
        other = {
            "argcount": 1, "onlycount": 0, "stacksize": 8, "flags": 0, "code": (149, 0), "constants": (None, 5, "t"),
            "names": ("n",), "slots": ("a", "b"), "kinds": (32, 32), "name": "g", "path": "f", "line": 11,
            "lines": (), "handlers": (),
        }
        for field, value in other.items():
            self.unlike(code_with(), code_with(**{field: value}))
            self.assertEqual(code_with(**{field: value}), code_with(**{field: value}))

    def test_kinds_of_constants(self):
        values = (None, True, False, 0, 1, "", "0", "None", (), (0,), (False,), (None,), ((),), (1, 2), (1, (2,)), -1)
        for at, one in enumerate(values):
            self.assertEqual(code_with(constants=[one]), code_with(constants=(one,)))
            self.assertEqual(code_with(constants=[(one, one)]), code_with(constants=((one, one),)))
            for other in values[at + 1:]:
                self.unlike(code_with(constants=[one]), code_with(constants=[other]))
                self.unlike(code_with(constants=[(7, (one, 8))]), code_with(constants=[(7, (other, 8))]))

    def test_shapes_of_constants(self):
        rows = ([], [()], [1], [1, 2], [(1, 2)], [(1,), 2], [1, (2,)], [((1,), 2)], ["int", 1], [("tuple", 1)],
                ["bool", True], [None, None], ["code"], [2, 1])
        for at, one in enumerate(rows):
            for other in rows[at + 1:]:
                self.unlike(code_with(constants=one), code_with(constants=other))

    def test_codes_in_codes(self):
        one, true = code_with(constants=[1]), code_with(constants=[True])
        self.assertEqual(code_with(constants=[one, "a"]), code_with(constants=[code_with(constants=[1]), "a"]))
        self.unlike(code_with(constants=[one]), code_with(constants=[true]))
        self.unlike(code_with(constants=[one]), code_with(constants=[1]))
        self.unlike(code_with(constants=[one, true]), code_with(constants=[true, one]))
        self.unlike(codes(99), codes(100))

    def test_codes_that_are_there_many_times(self):
        """They are gone into once where they are one object."""
        found = code_with()
        for _ in range(60):
            found = code_with(constants=[found, 1, found])
        self.assertEqual(found, found)
        self.assertEqual(code_with(constants=[found, found]), code_with(constants=[found, found]))
        self.unlike(code_with(constants=[found, found]), code_with(constants=[found, True]))
        self.unlike(code_with(constants=[found, 1]), code_with(constants=[found, True]))

    def test_codes_as_deep_as_may_be(self):
        self.assertEqual(codes(100), codes(100))
        inner = code_with(constants=["other"])
        for _ in range(99):
            inner = code_with(constants=[inner, 1])
        self.unlike(codes(100), inner)

    def test_objects_of_other_classes(self):
        for thing in [*junk(), None, 0, "code", (), tuple(VALUES.values()), VALUES]:
            self.unlike(code_with(), thing)


if __name__ == "__main__":
    unittest.main()
