"""Values and operations, as the machine and the walker have them."""

import itertools
import unittest

from tests.source import evaluated, evaluated_all, run_source, told

CLASSES = """
class Yes:
    def __bool__(self):
        tell("yes")
        return True
class No:
    def __bool__(self):
        tell("no")
        return False
class Plain:
    pass
class Three:
    def __init__(self, end=3):
        self.n = 0
        self.end = end
    def __iter__(self):
        return self
    def __next__(self):
        if self.n == self.end:
            raise StopIteration("ended")
        self.n += 1
        return self.n
"""


class ValuesTests(unittest.TestCase):
    def is_value(self, expression, due, setup=""):
        """What is told of an expression, bools and integers told apart."""
        self.assertEqual(repr(evaluated(self, expression, setup)), repr(due), expression)

    def are_values(self, cases, setup=""):
        """The same for many; a case is a tuple (what is due, expression) or (what is due, statements, expression)."""
        found = evaluated_all(self, [case[1] if len(case) == 2 else case[1:] for case in cases], setup)
        for case, value in zip(cases, found):
            self.assertEqual(repr(value), repr(case[0]), case)

    def raises(self, expression, word="TypeError", setup=""):
        self.assertEqual(evaluated(self, expression, setup), (word,), expression)

    def tells(self, source, *due):
        self.assertEqual(repr(told(self, source)), repr(list(due)))


class TruthTests(ValuesTests):
    def test_values(self):
        for value in ("None", "False", "0", '""', "()", "[]", "{}", "range(0)", "range(3, 1)", "range(1, 3, -1)", "list()"):
            self.is_value(f"not {value}", True)
        for value in ("True", "1", "-1", '"0"', "(0,)", "[0]", "{0: 0}", "range(1)", "range(3, 1, -1)", "len", "Plain",
                      "Plain()", "f", "Plain().m", "[].append", "iter([])", "(x for x in [])", "ValueError()", "object()"):
            self.is_value(f"not {value}", False, CLASSES + "Plain.m = lambda self: 0\ndef f():\n    pass")

    def test_special_methods(self):
        self.tells(CLASSES + "tell(not Yes(), not No())", "yes", "no", (False, True))
        self.tells(CLASSES + "if No():\n    tell(1)\nelse:\n    tell(2)", "no", 2)
        # Those of a base; those of an instance alone are not looked for.
        self.tells(CLASSES + "class D(No):\n    pass\ntell(not D())", "no", True)
        self.tells(CLASSES + "p = Plain()\np.__bool__ = lambda: False\ntell(not p)", False)
        for wrong in ("return 1", "return 0", "return None", 'return "x"', "pass"):
            self.raises("not C()", "TypeError", f"class C:\n    def __bool__(self):\n        {wrong}")
        for wrong in ("1", "True", "len", "object"):
            self.raises("not C()", "TypeError", f"class C:\n    __bool__ = {wrong}")
        self.raises("not C()", "KeyError", "class C:\n    def __bool__(self):\n        raise KeyError")
        self.tells(CLASSES + "class E(ValueError):\n    __bool__ = No.__bool__\ntell(not E())", "no", True)

    def test_junctions_ask_once(self):
        self.tells(CLASSES + "a = No() and 1\nb = Yes() or 1\nc = Yes() and 1\nd = No() or 2\ntell(c, d)", "no", "yes", "yes",
                   "no", (1, 2))
        # As a value the last one is not asked; as a test it is.
        self.tells(CLASSES + "x = 1 and No()\ny = 0 or Yes()", *[])
        self.tells(CLASSES + "if 1 and No():\n    tell(1)", "no")
        self.tells(CLASSES + "if No() and 1 or Yes():\n    tell(1)", "no", "yes", 1)
        self.tells(CLASSES + "if not (No() or Yes() and No()):\n    tell(1)", "no", "yes", "no", 1)
        # As a value it is asked, and then the whole of it once more.
        self.tells(CLASSES + "tell(not (No() and 1))", "no", "no", True)
        self.tells(CLASSES + "if (No() and 1):\n    tell(1)", "no")
        self.tells(CLASSES + "tell(1 if (Yes() if No() else No()) else 2)", "no", "no", 2)
        self.tells(CLASSES + "while No() or Yes():\n    break\nassert Yes() and Yes()", "no", "yes", "yes", "yes")


class EqualityTests(ValuesTests):
    groups = (
        ("0", "False"), ("1", "True"), ("2",), ("None",), ('""',), ('"a"',), ("()",), ("[]",), ("{}",), ("(1,)", "(True,)"),
        ("[1]", "[True]"), ("(1, (2, [3]))",), ("[1, 2]",), ("(1, 2)",), ("{1: 2}", "{True: 2}"), ("{1: 3}",),
        ('{"a": 1, "b": [2]}', '{"b": [2], "a": True}'), ("{1: 2, 3: 4}",), ("10 ** 30", "10 ** 29 * 10"), ("-1",),
    )

    def test_all_pairs(self):
        setup, rows = [], []
        values = [(at, value) for at, group in enumerate(self.groups) for value in group]
        for (one, left), (other, right) in itertools.product(values, values):
            rows.append(f"[{left} == {right}, {left} != {right}, ({left},) == ({right},), [{left}] != [{right}], "
                        f"{{0: {left}}} == {{0: {right}}}, {left} in [{right}], {left} not in ({right}, )]")
            same = one == other
            setup.append(("list", same, not same, same, not same, same, same, not same))
        source = "\n".join(f"tell({row})" for row in rows)
        self.assertEqual(told(self, source), setup)

    def test_objects(self):
        setup = CLASSES + "a = Plain()\nb = Plain()\nf = lambda: 0\nr = range(3)\ni = iter([])\ng = (x for x in [])\n" \
                          "e = ValueError()\nl = [a]\nPlain.m = f\nm = a.m"
        for held in ("a", "f", "r", "i", "g", "e", "len", "Plain", "m", "ValueError"):
            self.is_value(f"[{held} == {held}, {held} != {held}, {held} in [{held}], ({held},) == ({held},)]",
                          ("list", True, False, True, True), setup)
        for one, other in (("a", "b"), ("r", "range(3)"), ("iter([])", "iter([])"), ("a.m", "a.m"), ("l.append", "l.append"),
                           ("e", "ValueError()"), ("a", "None"), ("a", "0"), ("f", "m"), ("Plain", "No")):
            self.is_value(f"[{one} == {other}, {one} != {other}, {one} in [{other}]]", ("list", False, True, False), setup)

    def test_deep_values(self):
        source = """
            def deep(last):
                one = last
                for k in range({}):
                    if k < 50:
                        one = (one,)
                    elif k < 100:
                        one = [one]
                    else:
                        one = {{k: one}}
                return one
            tell(deep(1) == deep(True), deep(1) == deep(2), deep(1) != deep(None), deep([]) is deep([]))
        """
        self.tells(source.format(150), (True, False, True, False))
        source = """
            def deep(last):
                one = last
                for k in range(150):
                    one = (one,)
                return one
            tell(deep(1) < deep(2), deep(1) >= deep(True), deep(2) <= deep(1), {deep(1): 5}[deep(True)])
        """
        self.tells(source, (True, True, False, 5))

    def test_values_that_are_many_times_in_themselves(self):
        source = """
            def many(x):
                for k in range(60):
                    x = {}
                return x
            x = many(1)
            tell(x == x, [x] == [x], x != x, x in [0, x], (x, 1) < (x, 2), x is x, {{0: x}} == {{0: x}})
        """
        for more in ("[x, x]", "(x, x)", "{{0: x, 1: x}}", "[(x,), {{1: x}}]"):
            self.tells(source.format(more.replace("{{", "{").replace("}}", "}")), (True, True, False, True, True, True, True))

    def test_identity(self):
        for held in ("None", "True", "False", "xs", "d", "a", "len", "Plain", "f"):
            self.is_value(f"[{held} is {held}, {held} is not {held}]", ("list", True, False),
                          "xs = []\nd = {}\nclass Plain:\n    pass\na = Plain()\nf = lambda: 0")
        for one, other in (("[]", "[]"), ("{}", "{}"), ("None", "False"), ("None", "0"), ("True", "1"), ("False", "0"),
                           ("a", "Plain()"), ("xs", "[]"), ("True", "False"), ("range(1)", "range(1)"), ("1", '"1"')):
            self.is_value(f"[{one} is {other}, {one} is not {other}]", ("list", False, True),
                          "xs = []\nclass Plain:\n    pass\na = Plain()")
        self.tells("x = []\ny = x\ny += [1]\ntell(x is y, x is not y, x)", (True, False, ("list", 1)))
        self.tells("x = None\nif x is None:\n    tell(1)\nif x is not None:\n    tell(2)\nif not x is None:\n    tell(3)", 1)

    def test_in(self):
        for expression, due in (
            ("1 in [2, 1]", True), ("3 in (1, 2)", False), ("True in [1]", True), ('"b" in "abc"', True), ('"" in "abc"', True),
            ('"ca" in "abc"', False), ("[1] in [[1]]", True), ("1 in {1: 2}", True), ("2 in {1: 2}", False), ("True in {1: 0}", True),
            ("(1, 2) in {(True, 2): 0}", True), ("2 in range(3)", True), ("3 in range(3)", False), ("-1 in range(3)", False),
            ("4 in range(1, 9, 3)", True), ("5 in range(1, 9, 3)", False), ("4 in range(9, 0, -5)", True), ("9 in range(9, 0, -5)", True),
            ("0 in range(9, 0, -3)", False), ("True in range(2)", True), ('"1" in range(3)', False), ("None in range(3)", False),
            ("[] in range(3)", False), ("10 ** 20 in range(0, 10 ** 30, 10)", True), ("1 in range(0)", False), ("2 in Three()", True),
            ("9 in Three()", False), ("2 in iter([1, 2])", True), ("2 in (x for x in [1, 2])", True), ("1 not in [1]", False),
            ("1 not in [2]", True), ("None in [None]", True), ("{} in [{}]", True),
        ):
            self.is_value(expression, due, CLASSES)
        for expression in ("1 in 5", "1 in None", '1 in "1"', 'None in "None"', "[] in {}", "{} in {1: 2}", "([],) in {}", "1 in len",
                           "1 in Plain()", "1 in Plain", '[] not in "a"'):
            self.raises(expression, "TypeError", CLASSES)
        # It goes no further than to the first one.
        self.tells("i = iter([1, 2, 3])\ntell(2 in i, list(i))", (True, ("list", 3)))
        self.tells("def g():\n    tell(1)\n    yield 1\n    tell(2)\n    yield 2\ntell(1 in g())", 1, True)


class OrderTests(ValuesTests):
    def test_integers_and_strings(self):
        values = ("-10 ** 20", "-1", "0", "False", "1", "True", "2", "10 ** 30")
        strings = ('""', '"a"', '"B"', '"ab"', '"b"')
        texts = [f"{left} {op} {right}" for group in (values, strings) for left, right in itertools.product(group, group)
                 for op in ("<", "<=", ">", ">=")]
        self.are_values([(eval(text), text) for text in texts])

    def test_rows(self):
        rows = ("()", "(1,)", "(1, 2)", "(True, 3)", "(2,)", '("a",)', '("a", 1)', "((1, 2), 3)", "((1, 3), 0)", "((), 9)")
        cases = []
        for left, right, op in itertools.product(rows, rows, ("<", "<=", ">", ">=")):
            text = f"{left} {op} {right}"
            for given in (text, text.replace("(", "[").replace(",)", "]").replace(")", "]")):
                try:
                    due = eval(given)
                except TypeError:
                    due = ("TypeError",)
                cases.append((due, given))
        self.are_values(cases)

    def test_only_what_is_unlike_is_ordered(self):
        self.is_value("(None, 1) < (None, 2)", True)
        self.is_value("[{}, [], 1] >= [{}, [], 1]", True)
        self.raises("(None, 1) < (0, 2)")
        self.raises("[{1: 2}] < [{}]")

    def test_what_has_no_order(self):
        values = ("None", "1", '"a"', "(1,)", "[1]", "{1: 2}", "len", "range(2)")
        self.are_values([(("TypeError",), f"{left} {op} {right}") for left, right in itertools.product(values, values)
                         if left != right or left in ("None", "{1: 2}", "len", "range(2)") for op in ("<", "<=", ">", ">=")])

    def test_chains(self):
        setup = "def f(x):\n    tell(x)\n    return x\n"
        self.tells(setup + "tell(f(1) < f(2) < f(3))", 1, 2, 3, True)
        self.tells(setup + "tell(f(2) < f(1) < f(3))", 2, 1, False)
        self.tells(setup + "tell(f(1) < f(3) == f(3) > f(3) < f(9))", 1, 3, 3, 3, False)
        self.tells(setup + "if f(1) < f(2) != f(2) < f(4):\n    tell(5)\nelse:\n    tell(6)", 1, 2, 2, 6)
        self.tells(setup + "if f(1) in f([1]) is not f(None) == f(None):\n    tell(5)", 1, ("list", 1), None, None, 5)
        self.tells(setup + "while not f(1) < f(2) < f(0):\n    break", 1, 2, 0)


ARITHMETIC = ("+", "-", "*", "//", "%", "**", "<<", ">>", "&", "|", "^")
NUMBERS = ("0", "1", "2", "7", "-1", "-3", "True", "False", "10 ** 20", "-10 ** 20")
OTHERS = ("None", '"ab"', '""', "(1, 2)", "()", "[1]", "[]", "{1: 2}", "{}", "len", "range(2)", "Plain()")


def due_of(left, op, right):
    """What an operation of integers is; the names of exceptions in tuples."""
    one, other = eval(left), eval(right)
    if op in ("<<", "**") and abs(one) > (op == "**") and other > 100:
        # Too large, for Python as well.
        return None
    if op == "**" and other < 0:
        return ("ValueError",)
    try:
        return eval(f"({left}) {op} ({right})")
    except (ZeroDivisionError, ValueError) as error:
        return (type(error).__name__,)


class ArithmeticTests(ValuesTests):
    def test_integers_with_all_operators(self):
        cases = []
        for op, left, right in itertools.product(ARITHMETIC, NUMBERS, NUMBERS):
            due = due_of(left, op, right)
            if due is not None:
                # By names, as constants, and in place.
                cases.append((due, f"a = {left}\nb = {right}", f"a {op} b"))
                cases.append((due, f"({left}) {op} ({right})"))
                cases.append((due, f"a = {left}\na {op}= {right}", "a"))
        self.are_values(cases)

    def test_bools_stay_bools_for_the_bit_operators_alone(self):
        for op in ("&", "|", "^"):
            for left, right in itertools.product(("True", "False"), repeat=2):
                self.is_value(f"{left} {op} {right}", eval(f"{left} {op} {right}"))
            self.is_value(f"True {op} 1", eval(f"True {op} 1"))
        self.is_value("True + True", 2)
        self.is_value("True * True", 1)
        self.is_value("True ** 0", 1)
        self.is_value("True >> False", 1)

    def test_signs(self):
        for value in NUMBERS:
            for sign in ("-", "~"):
                due = -eval(value) if sign == "-" else -1 - eval(value)
                self.is_value(f"{sign}({value})", int(due))
                self.is_value(f"{sign}a", int(due), f"a = {value}")
        for value in OTHERS:
            for sign in ("-", "~"):
                self.raises(f"{sign}({value})", "TypeError", CLASSES)

    def test_rows_and_dicts(self):
        for expression, due in (
            ('"ab" + "c"', "abc"), ("(1,) + (2, 3)", ("tuple", 1, 2, 3)), ("[1] + [[]]", ("list", 1, ("list",))),
            ('"ab" * 2', "abab"), ('2 * "ab"', "abab"), ('"ab" * 0', ""), ('"ab" * -1', ""), ('"ab" * True', "ab"),
            ("[] * 10 ** 30", ("list",)), ('"" * 10 ** 30', ""), ("10 ** 30 * ()", ("tuple",)), ("[1] * -10 ** 30", ("list",)), ("-10 ** 30 * (1,)", ("tuple",)),
            ("(1,) * 2", ("tuple", 1, 1)), ("False * (1,)", ("tuple",)), ("[1, 2] * 2", ("list", 1, 2, 1, 2)),
            ("3 * []", ("list",)), ("{1: 2, 3: 4} | {5: 6, True: 0}", ("dict", (1, 0), (3, 4), (5, 6))), ("{} | {}", ("dict",)),
        ):
            self.is_value(expression, due)
        self.tells("a = [1]\nb = a + [2]\nc = a * 1\nd = {1: 2}\ne = d | {}\ntell(a, b is a, c is a, e is d, d)",
                   (("list", 1), False, False, False, ("dict", (1, 2))))
        # The elements are the same ones.
        self.tells("x = []\na = [x] * 2\na[0].append(1)\ntell(a, a[0] is x)", (("list", ("list", 1), ("list", 1)), True))

    def test_all_other_pairs_are_type_errors(self):
        values = ("1", "True") + tuple([value for value in OTHERS if value not in ('""', "()", "[]", "{}")])
        cases = []
        for op in ARITHMETIC:
            for left, right in itertools.product(values, values):
                kinds = [kind_of(left), kind_of(right)]
                right_pair = (
                    kinds == ["int", "int"] or (op == "+" and kinds[0] == kinds[1] and kinds[0] in ("str", "tuple", "list"))
                    or (op == "*" and "int" in kinds and ({"str", "tuple", "list"} & set(kinds))) or (op == "|" and kinds == ["dict"] * 2)
                )
                if not right_pair:
                    cases.append((("TypeError",), f"({left}) {op} ({right})"))
                    in_place = (op, kinds[0]) == ("+", "list") and kinds[1] in ("str", "tuple", "dict", "range", "list")
                    if not in_place:
                        cases.append((("TypeError",), f"a = {left}\na {op}= {right}", "a"))
        self.are_values(cases, CLASSES)


def kind_of(value):
    return {"N": "None", '"': "str", "(": "tuple", "[": "list", "{": "dict", "l": "len", "r": "range", "P": "Plain"}.get(
        value[0], "int")


class InPlaceTests(ValuesTests):
    def test_lists_change(self):
        for change, due in (
            ("a += [2]", ("list", 1, 2)), ("a += (2, 3)", ("list", 1, 2, 3)), ('a += "xy"', ("list", 1, "x", "y")),
            ("a += {5: 6}", ("list", 1, 5)), ("a += range(2)", ("list", 1, 0, 1)), ("a += a", ("list", 1, 1)),
            ("a += Three()", ("list", 1, 1, 2, 3)), ("a += (x for x in [7])", ("list", 1, 7)), ("a *= 2", ("list", 1, 1)),
            ("a *= 0", ("list",)), ("a *= -1", ("list",)), ("a *= True", ("list", 1)), ("a *= -10 ** 30", ("list",)),
        ):
            self.tells(CLASSES + f"a = [1]\nb = a\n{change}\ntell(a is b, b)", (True, due))

    def test_dicts_change(self):
        self.tells("a = {1: 2, 3: 4}\nb = a\na |= {True: 5, 6: 7}\ntell(a is b, b)", (True, ("dict", (1, 5), (3, 4), (6, 7))))
        self.raises("a", "TypeError", "a = {}\na |= [(1, 2)]")
        self.raises("a", "TypeError", "a = {}\na += {}")

    def test_all_else_is_made_anew(self):
        for value, change, due in (("1", "+= 1", 2), ('"a"', '+= "b"', "ab"), ("(1,)", "+= (2,)", ("tuple", 1, 2)),
                                   ("(1,)", "*= 2", ("tuple", 1, 1)), ("2", "*= [1]", ("list", 1, 1)), ("True", "&= False", False)):
            source = f"a = {value}\nb = a\na {change}\ntell(a, b == a)"
            self.tells(source, (due, False))
        for value, change in (("(1,)", "+= [2]"), ('"a"', "+= 1"), ("[1]", "+= 5"), ("[1]", "+= None"), ("[1]", '*= "a"'),
                              ("[1]", "*= [1]"), ("[1]", "|= [1]"), ("[1]", "-= [1]"), ("1", "+= [1]")):
            self.raises("a", "TypeError", f"a = {value}\na {change}")

    def test_what_is_put_behind_a_list_is_gone_through_first(self):
        source = """
            a = [1]
            def g():
                yield 2
                tell(a)
                yield 3
            {}
            tell(a)
        """
        self.tells(source.format("a += g()"), ("list", 1), ("list", 1, 2, 3))
        source = """
            a = [1]
            def g():
                yield 2
                raise KeyError
            try:
                a += g()
            except KeyError:
                tell(a)
        """
        self.tells(source, ("list", 1))

    def test_the_order_of_evaluation(self):
        setup = "def f(x):\n    tell(x)\n    return x\n"
        self.tells(setup + "xs = [1, 2]\nclass C:\n    pass\nc = C()\nc.v = 5\nf(xs)[f(0)] += f(7)\nf(c).v += f(1)\ntell(xs, c.v)",
                   ("list", 1, 2), 0, 7, ("instance", "C"), 1, (("list", 8, 2), 6))
        self.tells(setup + "xs = [1, 2, 3]\nf(xs)[f(0):f(1)] += f([9])\ntell(xs)", ("list", 1, 2, 3), 0, 1, ("list", 9),
                   ("list", 1, 9, 2, 3))
        # A name is read first.
        self.tells(setup + "x = 1\ndef g():\n    global x\n    x = 10\n    return 5\nx += g()\ntell(x)", 6)

    def test_what_was_changed_when_it_fails(self):
        self.tells("t = ([1],)\ntry:\n    t[0] += [2]\nexcept TypeError:\n    tell(t)", ("tuple", ("list", 1, 2)))
        self.tells("""
            class C:
                pass
            c = C()
            c.v = [1]
            d = c.v
            try:
                c.v += 5
            except TypeError:
                tell(c.v, d is c.v)
            try:
                c.w += 1
            except AttributeError:
                tell(1)
            try:
                ZeroDivisionError.args += 1
            except AttributeError:
                tell(2)
            e = ValueError([])
            try:
                e.args += (1,)
            except AttributeError:
                tell(e)
        """, (("list", 1), True), 1, 2, ("instance", "ValueError", (("list",),)))
        self.tells("xs = [[1], [2]]\ntry:\n    xs[5] += [0]\nexcept IndexError:\n    tell(xs)", ("list", ("list", 1), ("list", 2)))
        self.tells("d = {}\ntry:\n    d[1] += 1\nexcept KeyError:\n    tell(d)", ("dict",))
        self.tells('s = "ab"\ntry:\n    s[0] += "c"\nexcept TypeError:\n    tell(s)', "ab")
        self.tells("xs = [1, 2]\ntry:\n    xs[0:1] += 5\nexcept TypeError:\n    tell(xs)", ("list", 1, 2))
        self.tells("def f():\n    x += 1\nf()", "UnboundLocalError")
        self.tells("x += 1", "NameError")


class SubscriptTests(ValuesTests):
    values = (("[10, 20, 30]", [10, 20, 30]), ("(10, 20, 30)", (10, 20, 30)), ('"abc"', "abc"), ("range(10, 40, 10)", (10, 20, 30)))

    def test_elements(self):
        for text, row in self.values:
            for index in (-4, -3, -1, 0, 1, 2, 3, 10 ** 30, -10 ** 30, True, False):
                if -3 <= index < 3:
                    self.is_value(f"{text}[{index}]", row[index])
                else:
                    self.raises(f"{text}[{index}]", "IndexError")
            for index in ("None", '"0"', "(0,)", "[0]", "{}"):
                self.raises(f"{text}[{index}]")
        for value in ("None", "5", "True", "len", "object", "iter([])", "Plain()"):
            self.raises(f"{value}[0]", "TypeError", CLASSES)
        self.raises("[][0]", "IndexError")

    def test_slices(self):
        bounds = ("", "0", "1", "2", "3", "9", "-1", "-2", "-9", "10 ** 30", "-10 ** 30", "True", "None")
        cases = []
        for lower, upper in itertools.product(bounds, bounds):
            for text, row in self.values[:3]:
                due = eval(f"row[{lower}:{upper}]", {"row": row})
                shown = due if isinstance(due, str) else (type(due).__name__, *due)
                cases.append((shown, f"{text}[{lower}:{upper}]"))
        self.are_values(cases)
        for text in ("[1]", '"a"', "(1,)"):
            for bound in ('"a":', ':"a"', "[]:", "None:len", "():"):
                self.raises(f"{text}[{bound}]")
        for text in ("range(3)", "{}", "None", "5", "len"):
            self.raises(f"{text}[0:1]")
            self.raises(f"{text}[:]")
        self.tells("a = [1, 2]\nb = a[:]\nb.append(3)\ntell(a, b)", (("list", 1, 2), ("list", 1, 2, 3)))

    def test_stored_elements(self):
        self.tells("a = [1, 2, 3]\na[0] = 4\na[-1] = 5\na[True] = 6\ntell(a)", ("list", 4, 6, 5))
        for index in ("3", "-4", "10 ** 20"):
            self.raises("a", "IndexError", f"a = [1, 2, 3]\na[{index}] = 0")
        for index in ("None", '"a"', "[]"):
            self.raises("a", "TypeError", f"a = [1, 2, 3]\na[{index}] = 0")
        for value in ("(1,)", '"a"', "range(3)", "None", "5", "len"):
            self.raises("a", "TypeError", f"a = {value}\na[0] = 1")

    def test_stored_slices(self):
        cases = []
        for lower, upper, stored in itertools.product(("", "0", "1", "-1", "9", "-9", "10 ** 20"), ("", "0", "2", "-1", "99"),
                                                      ("[]", "[7, 8, 9]", "(7,)", '"xy"')):
            row = [1, 2, 3]
            exec(f"row[{lower}:{upper}] = {stored}")
            cases.append((("list", *row), f"a = [1, 2, 3]\nb = a\na[{lower}:{upper}] = {stored}", "b"))
        self.are_values(cases)
        self.tells(CLASSES + "a = [0]\na[:] = Three()\ntell(a)", ("list", 1, 2, 3))
        self.tells("a = [1, 2]\na[1:] = a\ntell(a)", ("list", 1, 1, 2))
        for value, bounds, stored in (("[1]", "0:1", "5"), ("[1]", '"a":', "[]"), ("[1]", ":None", "None"), ("(1,)", "0:1", "(2,)"),
                                      ('"a"', ":", '"b"'), ("{}", "0:1", "[]"), ("None", ":", "[]")):
            self.raises("a", "TypeError", f"a = {value}\na[{bounds}] = {stored}")

    def test_the_order_of_storing_a_slice(self):
        source = """
            class G:
                def __iter__(self):
                    tell("iter")
                    a.pop()
                    return iter([8, 9])
            a = [1, 2, 3, 4]
            {}
            tell(a)
        """
        # It takes the place of the slice that the list has then.
        self.tells(source.format("a[2:9] = G()"), "iter", ("list", 1, 2, 8, 9))
        # The bounds are looked at first.
        self.tells(source.format("a['x':] = G()"), "TypeError")
        self.tells(source.format("(1, 2)[0:] = G()"), "TypeError")

    def test_deleted(self):
        self.tells("a = [1, 2, 3]\ndel a[0]\ndel a[-1]\ntell(a)", ("list", 2))
        self.tells('d = {"a": 1, "b": 2}\ndel d["a"]\ntell(d)', ("dict", ("b", 2)))
        for setup, word in (("a = [1]\ndel a[1]", "IndexError"), ("a = [1]\ndel a[None]", "TypeError"), ("a = {}\ndel a[1]", "KeyError"),
                            ("a = {}\ndel a[[]]", "TypeError"), ("a = (1,)\ndel a[0]", "TypeError"), ('a = "x"\ndel a[0]', "TypeError"),
                            ("a = range(2)\ndel a[0]", "TypeError"), ("a = None\ndel a[0]", "TypeError")):
            self.raises("a", word, setup)


class DictTests(ValuesTests):
    def test_order_and_equal_keys(self):
        self.is_value("{2: 1, 1: 2, True: 3, 2: 4}", ("dict", (2, 4), (1, 3)))
        self.tells("d = {}\nd[1] = 0\nd[True] = 5\nd[0] = 1\ndel d[1]\nd[True] = 6\ntell(d)", ("dict", (0, 1), (True, 6)))
        self.is_value('{k: k for k in [1, True, "a", (1, 2), (True, 2)]}',
                      ("dict", (1, True), ("a", "a"), (("tuple", 1, 2), ("tuple", True, 2))))
        self.is_value("{k: v for k, v in [(1, 2), (1, 3)]}", ("dict", (1, 3)))

    def test_what_is_a_key(self):
        setup = CLASSES + "p = Plain()\nf = lambda: 0\ne = ValueError()"
        for key in ("None", "True", "5", '"a"', "()", '(1, ("a", None))', "p", "f", "len", "Plain", "range(2)", "e", "iter([])",
                    "(p, f)", "(x for x in [])"):
            self.is_value(f"len({{{key}: 1}})", 1, setup)
        self.is_value("{p: 1, (p,): 2}[(p,)]", 2, setup)
        self.is_value("(p,) in {(Plain(),): 1}", False, setup)
        for key in ("[]", "{}", "([],)", "(1, (2, {}))", "(p, [p])"):
            self.raises(f"{{{key}: 1}}", "TypeError", setup)
            self.raises(f"{{1: 2, {key}: 1, 3: 4}}", "TypeError", setup)
            self.raises(f"{{{key}: 1 for i in [1]}}", "TypeError", setup)
            self.raises(f"{{}}[{key}]", "TypeError", setup)
            self.raises(f"{{}}.get({key})", "TypeError", setup)
            self.raises("d", "TypeError", setup + f"\nd = {{}}\nd[{key}] = 1")

    def test_strings_that_look_like_tuples(self):
        self.is_value('{(): 1, ("",): 2, "": 3, ((),): 4, ("0,",): 5, "0,": 6}',
                      ("dict", (("tuple",), 1), (("tuple", ""), 2), ("", 3), (("tuple", ("tuple",)), 4), (("tuple", "0,"), 5), ("0,", 6)))
        self.is_value("{(1, 2): 1, ((1,), 2): 2, (1, (2,)): 3, ((1, 2),): 4}[((1,), 2)]", 2)

    def test_key_errors_have_the_key(self):
        for source in ("{}[(1, 2)]", "del {}[(1, 2)]"):
            log, outcome = run_source(self, source)
            self.assertEqual(outcome[:3], ("raised", "KeyError", (("tuple", 1, 2),)))
        self.tells("try:\n    {}[None]\nexcept LookupError as e:\n    tell(e.args)", ("tuple", None))

    def test_get(self):
        for expression, due in (("{1: 2}.get(1)", 2), ("{1: 2}.get(True, 5)", 2), ("{1: 2}.get(3)", None), ("{}.get(3, 4)", 4)):
            self.is_value(expression, due)
        for expression in ("{}.get()", "{}.get(1, 2, 3)", "{}.get(1, d=2)"):
            self.raises(expression)

    def test_keywords_of_dicts(self):
        setup = "def f(*a, **k):\n    return (a, k)"
        self.is_value('f(**{"a": 1}, b=2, **{"c": 3})', ("tuple", ("tuple",), ("dict", ("a", 1), ("b", 2), ("c", 3))), setup)
        self.is_value("f(**{})", ("tuple", ("tuple",), ("dict",)), setup)
        for wrong in ('f(a=1, **{"a": 2})', 'f(**{"a": 1}, **{"a": 2})', 'f(**{"a": 1}, a=2)', "f(**{1: 2})", 'f(**{"a": 1, None: 2})',
                      "f(**[])", "f(**None)", "f(**5)", "f(*5)", "f(*None, **{})"):
            self.raises(wrong, "TypeError", setup)
        # Keys that meet are an error where they meet; that they are no strings is one of the call.
        order = "def g(x):\n    tell(x)\n    return x\n"
        self.tells(order + 'def f(**k):\n    pass\nf(a=1, **g({"a": 2}), b=g(3))', ("dict", ("a", 2)), "TypeError")
        self.tells(order + "def f(*a, **k):\n    pass\nf(**g({1: 2}), b=g(3))", ("dict", (1, 2)), 3, "TypeError")
        # A lone Starred argument is gone through at the call.
        self.tells(order + "def i():\n    tell(0)\n    yield 1\ndef f(*a, **k):\n    tell(a)\nf(*i(), b=g(3))", 3, 0, ("tuple", 1))
        self.tells(order + "def i():\n    tell(0)\n    yield 1\ndef f(*a, **k):\n    tell(a)\nf(5, *i(), b=g(3))", 0, 3, ("tuple", 5, 1))


if __name__ == "__main__":
    unittest.main()
