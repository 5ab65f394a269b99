"""Expressions and tests nested as deep as programs may be, with what is told, yielded and raised in the midst of them."""

import unittest

from tests.source import evaluated, run_source, run_tree, told

# What is put around an expression again and again; it stays an integer where it is one.
AROUND = (
    "({} + 1)", "(1 + {})", "-{}", "(~{})", "({},)[0]", "[{}][0]", "{{0: {}}}[0]", "{{{}: 5, 1: 2}}[1]", "({} or 7)",
    "(0 or {})", "({} and 3)", "({} if t(9) else 8)", "(4 if not {} else 6)", "(4 if {} else 6)", "int0({})",
    "len([{}, {}])", "(not {})", "({} < 3 < 5)", "(2 == {})", "(w := {})", "(lambda v: v)({})", "(lambda: {})()",
    "[v for v in [{}]][0]", "[{} for v in 'a'][0]", "{{v: 1 for v in [{}]}}.get(1, 2)", "keyed(k={})", "list(({},))[0]",
    "[*(1, {})][1]", "keyed(*[{}])", "keyed(**{{'k': {}}})", "[1, 2, 3][{} * 0:][0]", "box.same({})", "next(iter([{}]))",
)

SETUP = """
def t(x):
    tell(x)
    return x
def int0(x):
    return x
def keyed(k):
    return k
class Box:
    def same(self, x):
        return x
box = Box()
"""


def nested(form, inner, depth):
    for _ in range(depth):
        inner = form.format(*[inner] * form.replace("{{", "").count("{}"))
    return inner


class NestedTests(unittest.TestCase):
    def depths(self, form):
        # What stands there twice doubles with each level.
        return (1, 3) if form.replace("{{", "").count("{}") > 1 else (1, 5, 6, 7, 8, 12)

    def test_one_form_within_itself(self):
        for form in AROUND:
            for depth in self.depths(form):
                source = f"{SETUP}tell({nested(form, 't(2)', depth)})"
                log, outcome = run_source(self, source)
                self.assertEqual(outcome, ("returned",), source)
                self.assertEqual(log[-2][0], "tell")

    def test_what_is_raised_at_the_innermost(self):
        for form in AROUND:
            for depth in self.depths(form):
                expression = nested(form, "t({}[0])", depth)
                found = told(self, f"{SETUP}def f():\n    try:\n        return {expression}\n    except KeyError as e:\n        return (e.args, 1)\ntell(f())")
                self.assertEqual(found[-1], ("tuple", ("tuple", 0), 1), expression)

    def test_tests_of_all_statements(self):
        for form in AROUND:
            for depth in self.depths(form):
                test = nested(form, "t(2)", depth)
                source = f"{SETUP}if {test}:\n    tell('if')\nelse:\n    tell('else')\nn = 0\nwhile {test} and n < 1:\n    n += 1\n    tell('while')\n" \
                         f"try:\n    assert {test}, t('false')\nexcept AssertionError as e:\n    tell(e)\ntell([v for v in (1, 2) if {test}])"
                self.assertEqual(run_source(self, source)[1], ("returned",), source)

    def test_in_generators(self):
        """Where a yield lies in the midst of it, and where one lies beside it."""
        for form in AROUND:
            # A comprehension has no yield of its own, and a lambda with one makes a generator.
            if " for " in form or "lambda: " in form:
                continue
            for depth in self.depths(form):
                for inner in ("(yield t(1))", "(yield from sub())"):
                    source = f"{SETUP}def sub():\n    return (yield 5)\ndef g():\n    yield 0\n    tell({nested(form, inner, depth)})\n    return 3\n" \
                             "h = g()\ntell(next(h))\ntry:\n    while True:\n        tell(h.send(2))\nexcept StopIteration as e:\n    tell(e.value)"
                    try:
                        log, outcome = run_source(self, source)
                    except RuntimeError as error:
                        self.fail(f"{error} {source}")
                    self.assertEqual(outcome[0] == "raised" and outcome[1] != "TypeError", False, source)

    def test_twenty_deep_in_each_of_sixteen_frames(self):
        for form in ("-{}", "({} + 0)", "[{}][0]", "(0 or {})", "({} if 1 else 2)", "int0({})", "box.same({})", "(not not {})", "(0, *[{}])[1]"):
            # A call of a function is a frame of its own, while what it gets is made ahead of it.
            expression = nested(form, "f(n - 1)", 18)
            source = f"{SETUP}def f(n):\n    return {expression} if n else 1\ntell(f(14))\ntell(f(15))"
            log, outcome = run_source(self, source)
            self.assertEqual(outcome[1], "RecursionError", form)
            self.assertEqual([entry[0] for entry in log].count("tell"), 1, form)

    def test_far_deeper_ones(self):
        for word in ("+", "or"):
            expression = ("Name", "x")
            for _ in range(60):
                if word == "+":
                    expression = ("BinOp", expression, "+", ("Name", "x"))
                else:
                    expression = ("BoolOp", "and", [expression, ("Name", "x")])
            tree = [("Assign", 1, [("Name", "x")], ("Constant", 1)), ("Expr", 2, ("Call", ("Name", "tell"), [expression], []))]
            log, _ = run_tree(self, tree)
            self.assertIn(("tell", 61 if word == "+" else 1), log)


class OrderTests(unittest.TestCase):
    """What is evaluated first, told one by one."""

    def order(self, expression):
        return [entry for entry in told(self, f"{SETUP}{expression}") if isinstance(entry, int)]

    def test_operands_and_arguments(self):
        for expression, due in (
            ("t(1) + t(2) * t(3)", [1, 2, 3]), ("[t(1), t(2)][t(0)]", [1, 2, 0]), ("{t(1): t(2), t(3): t(4)}", [1, 2, 3, 4]),
            ("{'a': t(2), 'b': t(4)}", [2, 4]), ("t(1) < t(2) < t(3)", [1, 2, 3]), ("t(2) < t(1) < t(3)", [2, 1]), ("t(0) or t(1) or t(2)", [0, 1]),
            ("t(1) and t(0) and t(2)", [1, 0]), ("t(1) if t(0) else t(2)", [0, 2]), ("keyed(k=t(5))", [5]), ("box.same(t(3))", [3]),
            ("(t(1), *[t(2)], t(3))", [1, 2, 3]), ("'abcd'[t(1):t(3)]", [1, 3]), ("(lambda x=t(1), *, y=t(2): t(3))(*[t(4)])", [1, 2, 4, 3]),
            ("[t(x) for x in (t(1), t(2))]", [1, 2, 1, 2]), ("(t(w := 4), w)", [4]),
        ):
            self.assertEqual(self.order(expression), due, expression)

    def test_statements(self):
        for source, due in (
            ("a = b = t(1)\ntell(a, b)", [1]), ("box.a = (x, box.b) = t((1, 2))[0:2]\ntell(x + box.b + 10)", [13]), ("a = [0, 0]\na[t(1)] = t(2)", [2, 1]),
            ("a = [5]\na[t(0)] += t(2)", [0, 2]), ("a = 1\na += t(2)\ntell(a)", [2, 3]), ("a = [1, 2]\ndel a[t(0)], a[t(0)]\ntell(len(a) + 70)", [0, 0, 70]),
            ("def d(f):\n    tell(7)\n    return f\n@d\ndef g(x=t(1), *, y=t(2)):\n    pass", [1, 2, 7]), ("class C(t(Box)):\n    t(3)\n    x = t(4)", [3, 4]),
            ("try:\n    raise t(ValueError) from t(None)\nexcept ValueError:\n    t(3)", [3]), ("for i in (t(1), t(2)):\n    t(i * 10)", [1, 2, 10, 20]),
            ("for i, box.k in [(1, 2)]:\n    t(i + box.k)", [3]), ("global_ = t(1)\nif t(1):\n    t(2)\nelif t(3):\n    t(4)", [1, 1, 2]),
        ):
            self.assertEqual(self.order(source), due, source)

    def test_names_that_have_no_value_in_the_midst(self):
        for expression in ("1 + x", "[1, x]", "len([x])", "x or 1", "1 < x < 2", "(lambda: x)()", "{1: x}", "-x", "x.a", "x[0]"):
            found = evaluated(self, "f()", f"def f():\n    try:\n        return {expression}\n        x = 1\n    except UnboundLocalError:\n        return 'unbound'\n    except NameError:\n        return 'free'")
            self.assertEqual(found, "free" if "lambda" in expression else "unbound", expression)


if __name__ == "__main__":
    unittest.main()
