"""Classes, going through values, builtins, calls, names and exceptions, as the machine and the walker have them."""

import unittest

from tests.source import evaluated, run_source, told, tree_of
from tests.test_values import CLASSES, ValuesTests

EXCEPTIONS = {
    "BaseException": "object", "GeneratorExit": "BaseException", "Exception": "BaseException",
    "ArithmeticError": "Exception", "ZeroDivisionError": "ArithmeticError", "AssertionError": "Exception",
    "AttributeError": "Exception", "LookupError": "Exception", "IndexError": "LookupError", "KeyError": "LookupError",
    "NameError": "Exception", "UnboundLocalError": "NameError", "RuntimeError": "Exception", "RecursionError": "RuntimeError",
    "StopIteration": "Exception", "TypeError": "Exception", "ValueError": "Exception",
}


class ClassTests(ValuesTests):
    setup = """
class A:
    x = 1
    y = 2
    def m(self, *rest):
        return ("A.m", rest)
class B(A):
    y = 3
    def n(self):
        return "B.n"
b = B()
b.z = 4
"""

    def test_attributes_of_instances(self):
        for expression, due in (
            ("b.z", 4), ("b.y", 3), ("b.x", 1), ("b.m(5)", ("tuple", "A.m", ("tuple", 5))), ("b.n()", "B.n"), ("b.m", ("method", "A.m")),
            ("b.__module__", "__main__"), ("b.__qualname__", "B"),
        ):
            self.is_value(expression, due, self.setup)
        for name in ("w", "__name__", "__class__", "__dict__", "args", "__context__", "value"):
            self.raises(f"b.{name}", "AttributeError", self.setup)
        self.tells(self.setup + "b.x = 9\nb.m = lambda: 7\ntell(b.x, A().x, b.m())\ndel b.x\ntell(b.x)", (9, 1, 7), 1)

    def test_only_functions_become_methods(self):
        setup = self.setup + "class C:\n    f = len\n    g = A\n    h = b.n\n    i = lambda self: self\n    j = range(2)\n    k = ValueError\n"
        self.is_value("[C().f([1]), C().g().x, C().h(), C().j, C().k]",
                      ("list", 1, 1, "B.n", ("range", 0, 2, 1), ("class", "ValueError")), setup)
        self.tells(setup + "c = C()\ntell(c.i() is c, C.i(5), c.f is len)", (True, 5, True))

    def test_attributes_of_classes(self):
        for expression, due in (("B.x", 1), ("B.y", 3), ("A.y", 2), ("B.m", ("function", "A.m")), ("B.m(1, 2)", ("tuple", "A.m", ("tuple", 2))),
                                ("B.__name__", "B"), ("B.__module__", "__main__"), ("object.__name__", "object"),
                                ("KeyError.__name__", "KeyError")):
            self.is_value(expression, due, self.setup)
        for expression in ("B.z", "A.n", "B.args", "object.x", "KeyError.__module__", "KeyError.args"):
            self.raises(expression, "AttributeError", self.setup)
        # Its own name is ahead of what its body has by that word, which an instance has.
        self.is_value("[C.__name__, C().__name__]", ("list", "C", "n"), 'class C:\n    __name__ = "n"')

    def test_storing_and_deleting(self):
        self.tells(self.setup + "A.x = 5\nB.w = 6\ntell(b.x, b.w)\ndel A.x\ntell(b.w)\ntell(b.x)", (5, 6), 6, "AttributeError")
        for statement, word in (
            ("del b.x", "AttributeError"), ("del B.x", "AttributeError"), ("del b.q", "AttributeError"), ("B.__name__ = 1", "AttributeError"),
            ("del B.__name__", "AttributeError"), ("object.x = 1", "TypeError"), ("del object.x", "TypeError"), ("ValueError.x = 1", "TypeError"),
            ("ValueError.__name__ = 1", "TypeError"), ("len.x = 1", "AttributeError"), ("[].x = 1", "AttributeError"),
            ("(lambda: 0).x = 1", "AttributeError"), ("(lambda: 0).__name__ = 1", "AttributeError"), ("b.m.x = 1", "AttributeError"),
            ("None.x = 1", "AttributeError"), ("x = 5\nx.y = 1", "AttributeError"), ("range(2).x = 1", "AttributeError"),
            ("del [].append", "AttributeError"), ("(x for x in []).send = 1", "AttributeError"),
        ):
            self.raises("0", word, self.setup + statement)
        self.tells(self.setup + "b.__name__ = 5\no = object()\no.x = 1\ntell(b.__name__, o.x)", (5, 1))

    def test_names_of_functions(self):
        self.is_value("[f.__name__, (lambda: 0).__name__, A.m.__name__]", ("list", "f", "<lambda>", "m"),
                      self.setup + "def f():\n    pass")
        for expression in ("len.__name__", "b.m.__name__", "(1).__name__", "[].__name__", "(x for x in []).__name__", "f.__qualname__"):
            self.raises(expression, "AttributeError", self.setup + "def f():\n    pass")

    def test_methods_of_builtin_values(self):
        self.tells("a = [1]\nf = a.append\nf(2)\na.extend((3, 4))\na.extend(a)\ntell(f, a)", (("builtin", "append"),
                                                                                          ("list", 1, 2, 3, 4, 1, 2, 3, 4)))
        self.tells("a = [1, 2, 3, 4]\ntell(a.pop(), a.pop(0), a.pop(-1), a.pop(True - 1), a)", (4, 1, 3, 2, ("list",)))
        self.is_value("[a.append(1), a.extend([])]", ("list", None, None), "a = []")
        for expression, word in (
            ("[].pop()", "IndexError"), ("[1].pop(1)", "IndexError"), ("[1].pop(-2)", "IndexError"), ("[].pop(0)", "IndexError"),
            ("[].pop(None)", "TypeError"), ("[1].pop('a')", "TypeError"), ("[1].pop(0, 0)", "TypeError"), ("[].append()", "TypeError"),
            ("[].append(1, 2)", "TypeError"), ("[].append(x=1)", "TypeError"), ("[].extend()", "TypeError"), ("[].extend(5)", "TypeError"),
            ("[].sort()", "AttributeError"), ("[].get", "AttributeError"), ("{}.append", "AttributeError"), ("{}.keys()", "AttributeError"),
            ("().append", "AttributeError"), ('"".join', "AttributeError"), ("iter([]).send", "AttributeError"), ("(1).real", "AttributeError"),
            ("None.x", "AttributeError"), ("range(2).start", "AttributeError"),
        ):
            self.raises(expression, word)

    def test_attributes_of_exceptions(self):
        self.tells("""
            e = ValueError(1, "a")
            tell(e.args, e.__cause__, e.__context__)
            s = StopIteration(5, 6)
            tell(s.value, StopIteration().value, s.args)
            class E(KeyError):
                args = 1
                value = 2
                def m(self):
                    return self.args
            e = E(7)
            e.value = 3
            tell(e.args, e.value, E.args, e.m())
            class S(StopIteration):
                value = 5
            tell(S().value, S(1).value, S.value)
        """, (("tuple", 1, "a"), None, None), (5, None, ("tuple", 5, 6)), (("tuple", 7), 3, 1, ("tuple", 7)), (None, 1, 5))
        for statement in ("e.args = ()", "e.__cause__ = None", "e.__context__ = None", "del e.args", "del e.__context__", "s.value = 1",
                          "del s.value", "e.w", "e.value"):
            self.raises("0", "AttributeError", f"e = ValueError()\ns = StopIteration()\n{statement}")
        self.tells("e = ValueError()\ne.value = 1\ne.w = 2\ntell(e.value, e.w)\ndel e.w\ne.w", (1, 2), "AttributeError")

    def test_init(self):
        self.is_value("C(1, k=2).v", ("tuple", 1, 2), "class C:\n    def __init__(self, a, *, k):\n        self.v = (a, k)")
        self.is_value("D(1).v", 1, "class C:\n    def __init__(self, a):\n        self.v = a\nclass D(C):\n    pass")
        self.tells("class E(ValueError):\n    def __init__(self, *a, **k):\n        tell(a, k, self.args)\ne = E(1, k=2)\ntell(e.args)",
                   (("tuple", 1), ("dict", ("k", 2)), ("tuple", 1)), ("tuple", 1))
        for wrong in ("C(1)", "C(a=1)", "object(1)", "object(a=1)", "ValueError(a=1)", "C(**{'a': 1})"):
            self.raises(wrong, "TypeError", "class C:\n    pass")
        for result in ("1", "False", "self"):
            self.raises("C()", "TypeError", f"class C:\n    def __init__(self):\n        return {result}")
        for held in ("1", "len", "object"):
            self.raises("C()", "TypeError", f"class C:\n    __init__ = {held}")
        self.raises("C()", "TypeError", "class C:\n    def __init__(self):\n        yield 1")
        # One of an instance alone is not called.
        self.is_value("c.x", 5, "class C:\n    x = 5\nc = C()\nc.__init__ = 1")

    def test_call(self):
        setup = "class C:\n    def __call__(self, *a, **k):\n        return (a, k)\nclass D(C):\n    pass\nclass P:\n    pass\np = P()\np.__call__ = len\n"
        self.is_value("C()(1, x=2)", ("tuple", ("tuple", 1), ("dict", ("x", 2))), setup)
        self.is_value("D()()", ("tuple", ("tuple",), ("dict",)), setup)
        for wrong in ("p()", "P()()", "5()", "None()", "[]()", "(1)()", '"a"()', "range(2)()", "iter([])()"):
            self.raises(wrong, "TypeError", setup)
        for held in ("1", "len", "P"):
            self.raises("Q()()", "TypeError", setup + f"class Q:\n    __call__ = {held}")

    def test_what_the_maker_of_classes_refuses(self):
        for bases in ("5", "None", "len", "object()", "[]", '"a"', "ValueError()"):
            self.tells(f"tell(0)\nclass C({bases}):\n    tell(1)", 0, "TypeError")
        self.tells("class C(object, object):\n    tell(1)", "TypeError")
        self.tells("class A:\n    pass\nclass B:\n    pass\nclass C(A, B):\n    tell(1)", "TypeError")
        self.tells("class C(object):\n    tell(1)\nclass D(KeyError):\n    tell(2)\ntell(C, D)", 1, 2, (("class", "C"), ("class", "D")))

    def test_bodies_of_classes(self):
        self.tells("""
            x = 1
            class C:
                tell(x, __name__, __module__, __qualname__)
                x = 2
                tell(x)
                del x
                tell(x)
                class D:
                    tell(__qualname__)
                    y = 5
                def m(self):
                    return x
                z = [x for i in range(2)]
            tell(C.D.y, C().m(), C.z)
            tell(C.x)
        """, (1, "__main__", "__main__", "C"), 2, 1, "C.D", (5, 1, ("list", 1, 1)), "AttributeError")
        self.tells("def f(x):\n    class C:\n        tell(x)\n        def m(self):\n            return x\n    x = 3\n    return C\ntell(f(1)().m())",
                   1, 3)
        self.tells("del __name__\nclass C:\n    tell(1)", "NameError")


class GoingTests(ValuesTests):
    def test_every_kind(self):
        for value, due in (("[1, 2]", [1, 2]), ("(1, 2)", [1, 2]), ('"ab"', ["a", "b"]), ("range(1, 8, 3)", [1, 4, 7]),
                           ("range(3, 0, -1)", [3, 2, 1]), ("{3: 4, 1: 2}", [3, 1]), ("iter([5])", [5]), ("(x * x for x in (2, 3))", [4, 9]),
                           ("Three()", [1, 2, 3]), ("[]", []), ('""', [])):
            due = ("list", *due)
            self.is_value(f"list({value})", due, CLASSES)
            self.is_value(f"[x for x in {value}]", due, CLASSES)
            self.is_value(f"[*{value}]", due, CLASSES)
            self.is_value(f"tuple(iter({value}))", ("tuple", *due[1:]), CLASSES)
            self.tells(CLASSES + f"a = []\nfor x in {value}:\n    a.append(x)\nelse:\n    tell(0)\ntell(a)", 0, due)
        for value in ("None", "5", "len", "object", "Plain()", "Plain", "ValueError()"):
            for expression in (f"list({value})", f"tuple({value})", f"iter({value})", f"[*{value}]", f"[x for x in {value}]", f"len(*{value})",
                               f"[(x, y) for x in [1] for y in {value}]"):
                self.raises(expression, "TypeError", CLASSES)
            self.raises("0", "TypeError", CLASSES + f"for x in {value}:\n    pass")

    def test_lists_that_change(self):
        self.tells("a = [1, 2, 3]\nfor x in a:\n    tell(x)\n    if len(a) < 5:\n        a.append(x * 10)\n    if x == 2:\n        a.pop(0)\n",
                   1, 2, 10, 20, 100)
        self.tells("a = [1]\ni = iter(a)\ntell(next(i), next(i, 0))\na.append(2)\ntell(next(i, 0))", (1, 0), 0)
        self.tells("a = [1]\ni = iter(a)\na.append(2)\ntell(next(i))\na.append(3)\ntell(list(i), list(i))", 1, (("list", 2, 3), ("list",)))

    def test_dicts_that_change(self):
        self.tells("d = {1: 2, 3: 4}\nfor k in d:\n    tell(k)\n    d[k] = 0", 1, 3)
        self.tells("d = {1: 2, 3: 4}\nfor k in d:\n    tell(k)\n    d[5] = 0", 1, "RuntimeError")
        self.tells("d = {1: 2}\nfor k in d:\n    tell(k)\n    del d[1]", 1, "RuntimeError")
        self.tells("d = {}\ni = iter(d)\ntell(next(i, 0))\nd[1] = 2\ntell(next(i, 0))", 0, 0)
        self.tells("d = {1: 2}\ni = iter(d)\nd[3] = 4\nlist(i)", "RuntimeError")

    def test_ended_ones_stay_so(self):
        for value in ("[1]", '"a"', "(1,)", "range(1)", "{1: 2}", "(x for x in [1])"):
            self.tells(f"i = iter({value})\nnext(i)\ntell(next(i, 0), next(i, 0), list(i))\nnext(i)", (0, 0, ("list",)), "StopIteration")
        self.tells("i = iter([])\ntell(iter(i) is i)\ng = (x for x in [])\ntell(iter(g) is g)", True, True)

    def test_instances(self):
        setup = CLASSES + """
class Made:
    def __init__(self, made):
        self.made = made
    def __iter__(self):
        tell("iter")
        return self.made
class NextAlone:
    def __next__(self):
        return 7
"""
        self.tells(setup + "tell([x for x in Made(iter([1, 2]))])", "iter", ("list", 1, 2))
        self.tells(setup + "tell(next(iter(Made(NextAlone()))))", "iter", 7)
        self.tells(setup + "tell(list(Made(x for x in [1])))", "iter", ("list", 1))
        for wrong in ("None", "[1]", "5", "Plain()", "Made(1)", "NextAlone", "range(2)", '"ab"'):
            self.tells(setup + f"list(Made({wrong}))", "iter", "TypeError")
            self.tells(setup + f"for x in Made({wrong}):\n    pass", "iter", "TypeError")
        for held in ("1", "len", "None"):
            self.raises("list(C())", "TypeError", setup + f"class C:\n    __iter__ = {held}")
            self.raises("list(C())", "TypeError", setup + f"class C:\n    def __iter__(self):\n        return self\n    __next__ = {held}")
            self.raises("next(C())", "TypeError", setup + f"class C:\n    __next__ = {held}")
        self.raises("list(NextAlone())", "TypeError", setup)
        self.raises("list(p)", "TypeError", setup + "p = Plain()\np.__iter__ = lambda: iter([])")
        # Other exceptions go on; what is based on a StopIteration ends it.
        self.raises("list(C())", "KeyError", setup + "class C:\n    def __iter__(self):\n        return self\n    def __next__(self):\n        raise KeyError")
        self.is_value("list(C())", ("list",), setup + "class S(StopIteration):\n    pass\nclass C:\n    def __iter__(self):\n        return self\n"
                      "    def __next__(self):\n        raise S(5)")
        self.tells(setup + "for x in Three():\n    tell(x)\nelse:\n    tell(9)", 1, 2, 3, 9)

    def test_unpacking(self):
        for source, due in (
            ("a, b = 1, 2\ntell(a, b)", (1, 2)), ("a, b = [1, 2]\ntell(a, b)", (1, 2)), ('[a, b] = "xy"\ntell(a, b)', ("x", "y")),
            ("a, b = {3: 4, 5: 6}\ntell(a, b)", (3, 5)), ("a, b, c = Three()\ntell(a, b, c)", (1, 2, 3)), ("() = []\ntell(1, 2)", (1, 2)),
            ("a, (b, c) = 1, (2, 3)\ntell(a, b, c)", (1, 2, 3)), ("a, *b = 1, 2, 3\ntell(a, b)", (1, ("list", 2, 3))),
            ("*a, b = 1, 2, 3\ntell(a, b)", (("list", 1, 2), 3)), ("a, *b, c = 1, 2\ntell(a, b, c)", (1, ("list",), 2)),
            ("[*a] = range(3)\ntell(a, 0)", (("list", 0, 1, 2), 0)), ("a, *[b, *c], d = range(5)\ntell(a, b, c, d)", (0, 1, ("list", 2, 3), 4)),
            ("a, *b = (x for x in range(3))\ntell(a, b)", (0, ("list", 1, 2))),
        ):
            self.tells(CLASSES + source, due)
        for source in ("a, b = 1, 2, 3", "a, b = [1]", "a, b = ()", "() = [1]", "a, *b, c = [1]", "*a, b = ''", "a, b, c, d = Three()",
                       "a, b = Three()", "a, (b, c) = 1, (2,)"):
            self.raises("0", "ValueError", CLASSES + source)
        for source in ("a, b = 5", "a, b = None", "*a, b = len", "a, b = Plain()", "() = 5"):
            self.raises("0", "TypeError", CLASSES + source)

    def test_how_far_unpacking_goes(self):
        setup = "def g():\n    for k in range(9):\n        tell(k)\n        yield k\n"
        self.tells(setup + "i = g()\ntry:\n    a, b = i\nexcept ValueError:\n    tell(list(i))", 0, 1, 2, 3, 4, 5, 6, 7, 8, ("list", 3, 4, 5, 6, 7, 8))
        # With a Starred target an instance is asked for its iterator once more.
        self.tells(CLASSES.replace("    def __iter__(self):\n", '    def __iter__(self):\n        tell("iter")\n')
                   + "a, *b = Three()\ntell(a, b)", "iter", "iter", (1, ("list", 2, 3)))
        self.tells(CLASSES.replace("    def __iter__(self):\n", '    def __iter__(self):\n        tell("iter")\n')
                   + "a, b, c = Three()\ntell(a, b)", "iter", (1, 2))
        self.tells("a = [1, 2]\nx, a[0], y = 5, 6, 7\ntell(x, a, y)", (5, ("list", 6, 2), 7))


class BuiltinTests(ValuesTests):
    def test_right_ones(self):
        for expression, due in (
            ("len('abc')", 3), ("len((1,))", 1), ("len([])", 0), ("len({1: 2})", 1), ("len(range(1, 10, 4))", 3), ("len(range(5, 0, -2))", 3),
            ("range(3)", ("range", 0, 3, 1)), ("range(1, 2)", ("range", 1, 2, 1)), ("range(9, 1, -3)", ("range", 9, 1, -3)),
            ("range(True, True)", ("range", 1, 1, 1)), ("iter([])", ("iterator",)), ("iter({})", ("iterator",)), ("iter('')", ("iterator",)),
            ("next(iter([5]))", 5), ("next(iter([]), 6)", 6), ("next(iter([7]), 6)", 7), ("next(Three())", 1), ("next(Three(0), 8)", 8),
            ("list()", ("list",)), ("list('ab')", ("list", "a", "b")), ("tuple()", ("tuple",)), ("tuple([1])", ("tuple", 1)),
            ("isinstance(Plain(), Plain)", True), ("isinstance(Plain(), Yes)", False), ("isinstance(Plain(), object)", True),
            ("isinstance(KeyError(), (ValueError, LookupError))", True), ("isinstance(KeyError(), ())", False), ("isinstance(5, object)", False),
            ("isinstance(None, object)", False), ("isinstance(Plain, object)", False), ("isinstance([], object)", False),
            ("isinstance(ValueError, Exception)", False), ("isinstance(Plain(), (Yes, No, Plain))", True), ("tell()", None),
        ):
            self.is_value(expression, due, CLASSES)

    def test_wrong_ones(self):
        for expression, word in (
            ("len()", "TypeError"), ("len(1)", "TypeError"), ("len(None)", "TypeError"), ("len('a', 'b')", "TypeError"), ("len(iter([]))", "TypeError"),
            ("len(Plain())", "TypeError"), ("len(obj='a')", "TypeError"), ("range()", "TypeError"), ("range(1, 2, 3, 4)", "TypeError"),
            ("range('a')", "TypeError"), ("range(1, None)", "TypeError"), ("range(1, 2, 0)", "ValueError"), ("range(1, None, 0)", "TypeError"),
            ("range(1, 2, False)", "ValueError"), ("range(stop=3)", "TypeError"), ("iter()", "TypeError"), ("iter(5)", "TypeError"),
            ("iter([], 1)", "TypeError"), ("iter(x=[])", "TypeError"), ("next()", "TypeError"), ("next([])", "TypeError"), ("next(5, 6)", "TypeError"),
            ("next(iter([]), 1, 2)", "TypeError"), ("next(iter([]))", "StopIteration"), ("next(Plain())", "TypeError"), ("next(Plain, 1)", "TypeError"),
            ("list(1, 2)", "TypeError"), ("list(5)", "TypeError"), ("list(x=[])", "TypeError"), ("tuple(1, 2)", "TypeError"), ("tuple(None)", "TypeError"),
            ("isinstance(1)", "TypeError"), ("isinstance(1, 2, 3)", "TypeError"), ("isinstance(1, 2)", "TypeError"), ("isinstance(1, None)", "TypeError"),
            ("isinstance(1, len)", "TypeError"), ("isinstance(1, list)", "TypeError"), ("isinstance(Plain(), (Plain, 5))", "TypeError"),
            ("isinstance(Plain(), (Plain, (Plain,)))", "TypeError"), ("isinstance(Plain(), [Plain])", "TypeError"), ("tell(x=1)", "TypeError"),
            ("isinstance(Plain(), Plain())", "TypeError"), ("print(1)", "NameError"), ("int('1')", "NameError"), ("super()", "NameError"),
        ):
            self.raises(expression, word, CLASSES)

    def test_the_value_of_what_ends(self):
        self.tells("def g():\n    yield 1\n    return 5\ni = g()\nnext(i)\ntry:\n    next(i)\nexcept StopIteration as e:\n    tell(e.args, e.value)\n"
                   "try:\n    next(i)\nexcept StopIteration as e:\n    tell(e.args)", (("tuple", 5), 5), ("tuple",))
        self.tells("def g():\n    yield 1\n    return None\ni = g()\nnext(i)\ntry:\n    next(i)\nexcept StopIteration as e:\n    tell(e.args)", ("tuple",))
        self.tells(CLASSES + "try:\n    next(Three(0))\nexcept StopIteration as e:\n    tell(e.value)\ntell(next(Three(0), 4))", "ended", 4)

    def test_they_are_looked_for_behind_the_globals(self):
        self.tells("len = lambda x: 7\ntell(len([]))\ndel len\ntell(len([]))\ndel len", 7, 0, "NameError")
        self.tells("def f():\n    global len\n    len = 5\nf()\ntell(len)", 5)
        self.tells("ValueError = KeyError\ntry:\n    {}[1]\nexcept ValueError:\n    tell(1)", 1)

    def test_the_tree_of_exceptions(self):
        for word, base in EXCEPTIONS.items():
            chain = [word]
            while chain[-1] != "object":
                chain.append(EXCEPTIONS.get(chain[-1], "object"))
            found = evaluated(self, f"[isinstance({word}(), other) for other in [{', '.join(EXCEPTIONS)}, object]]")
            self.assertEqual(found[1:], tuple(other in chain for other in [*EXCEPTIONS, "object"]), word)
            self.is_value(f"{word}(1, 2)", ("instance", word, (1, 2)))
            self.is_value(word, ("class", word))
            if base != "object":
                self.tells(f"try:\n    raise {word}\nexcept {base} as e:\n    tell(e)", ("instance", word, ()))
        self.is_value("isinstance(object(), BaseException)", False)


class CallTests(ValuesTests):
    setup = """
def f(a, b=2, *c, d, e=5, **g):
    return (a, b, c, d, e, g)
class C:
    def m(self, a, b=2, *c, d, e=5, **g):
        return (a, b, c, d, e, g)
m = C().m
"""

    def test_parameters_of_all_sorts(self):
        for arguments, due in (
            ("1, d=4", (1, 2, (), 4, 5, {})), ("1, 3, 6, 7, d=4, e=0", (1, 3, (6, 7), 4, 0, {})), ("d=4, a=1", (1, 2, (), 4, 5, {})),
            ("1, d=4, z=9, y=8", (1, 2, (), 4, 5, {"z": 9, "y": 8})), ("*(1, 3), d=4", (1, 3, (), 4, 5, {})),
            ('1, **{"d": 4, "b": 7}', (1, 7, (), 4, 5, {})), ('*[1], 3, *"xy", d=4, **{"q": 1}', (1, 3, ("x", "y"), 4, 5, {"q": 1})),
            ("b=3, d=4, a=1, c=0, g=6", (1, 3, (), 4, 5, {"c": 0, "g": 6})), ('*(), **{"a": 1}, d=4, **{}', (1, 2, (), 4, 5, {})),
        ):
            shown = ("tuple", *due[:2], ("tuple", *due[2]), *due[3:5], ("dict", *due[5].items()))
            self.is_value(f"f({arguments})", shown, self.setup)
            self.is_value(f"m({arguments})", shown, self.setup)
            self.is_value(f"C.m(0, {arguments})", shown, self.setup)

    def test_what_is_missing_too_much_or_given_twice(self):
        for arguments in ("", "1", "d=4", "1, a=1, d=4", "1, 2, b=3, d=4", '1, d=4, **{"d": 5}', '1, **{"a": 2, "d": 4}', '*[1, 2], b=5, d=4'):
            self.raises(f"f({arguments})", "TypeError", self.setup)
            self.raises(f"m({arguments})", "TypeError", self.setup)
        for parameters, arguments in (("", "1"), ("", "a=1"), ("a", ""), ("a", "1, 2"), ("a", "1, b=2"), ("a", "b=1"), ("a, b=1", "1, 2, 3"),
                                      ("*, k", ""), ("*, k", "1"), ("*, k=1", "1"), ("*a", "a=1"), ("**k", "1"), ("a, **k", "1, a=2"),
                                      ("a", "*()"), ("a", "*(1, 2)"), ("a", "**{}")):
            self.raises(f"(lambda {parameters}: 0)({arguments})")

    def test_keywords_for_names_that_look_like_others(self):
        self.is_value("(lambda a, **k: (a, k))(1, k=2)", ("tuple", 1, ("dict", ("k", 2))))
        self.is_value("(lambda *a, **k: (a, k))(1, a=2)", ("tuple", ("tuple", 1), ("dict", ("a", 2))))
        self.is_value('(lambda **k: k)(**{"not a name": 1})', ("dict", ("not a name", 1)))

    def test_defaults_are_made_once(self):
        self.tells("def d(x):\n    tell(x)\n    return [x]\ndef f(a=d(1), *, b=d(2)):\n    a.append(0)\n    b.append(0)\n    return (a, b)\nf()\ntell(f())\ntell(f([], b=[]))",
                   1, 2, ("tuple", ("list", 1, 0, 0), ("list", 2, 0, 0)), ("tuple", ("list", 0), ("list", 0)))
        self.tells("def d(x):\n    tell(x)\n    return x\n@d\n@d\ndef f(a=d(1)):\n    pass", 1, ("function", "f"), ("function", "f"))
        self.tells("k = []\nfor i in range(3):\n    k.append(lambda i=i: i)\ntell([f() for f in k])", ("list", 0, 1, 2))
        self.tells("def d(x):\n    tell(x)\n    return x\nf = lambda a, b=d(1), c=d(2): (a, b, c)\ntell(f(0), f(0, c=5))", 1, 2,
                   (("tuple", 0, 1, 2), ("tuple", 0, 1, 5)))

    def test_the_order_of_evaluation(self):
        setup = "def t(x):\n    tell(x)\n    return x\ndef f(*a, **k):\n    return (a, k)\nclass C:\n    m = f\n"
        self.tells(setup + "t(f)(t(1), *t([2]), t(3), x=t(4), **t({'y': 5}), z=t(6))", ("function", "f"), 1, ("list", 2), 3, 4, ("dict", ("y", 5)), 6)
        self.tells(setup + "t(C()).m(t(1), x=t(2))", ("instance", "C"), 1, 2)
        # The attribute is looked for ahead of the arguments, that it can be called behind them.
        self.tells(setup + "C().w(t(1))", "AttributeError")
        self.tells(setup + "None(t(1))", 1, "TypeError")
        self.tells(setup + "@t\n@t\nclass D(t(object)):\n    tell(7)", ("class", "object"), 7, ("class", "D"), ("class", "D"))
        self.tells(setup + "x = {t(1): t(2), t(3): t(4)}\ny = [t(5), *t((6,)), t(7)]\nz = (t(8), t(9))", 1, 2, 3, 4, 5, ("tuple", 6), 7, 8, 9)
        self.tells(setup + "t([0])[t(0)] = t(5)\na = t([])[t(0):t(1)]", 5, ("list", 0), 0, ("list",), 0, 1)
        self.tells(setup + "x = y = t([1])\nx[t(0)], y = t((2, 3))\ntell(x, y)", ("list", 1), ("tuple", 2, 3), 0, (("list", 2), 3))

    def test_wrong_defaults_and_stars(self):
        self.raises("f(*5)", "TypeError", self.setup)
        self.raises("f(1, *None, d=4)", "TypeError", self.setup)
        self.raises("[1, *5]")
        self.raises("(*None,)")


class NameTests(ValuesTests):
    def test_names_that_are_missing(self):
        for source, word in (
            ("x", "NameError"), ("del x", "NameError"), ("x = 1\ndel x\nx", "NameError"), ("def f():\n    return x\nf()", "NameError"),
            ("def f():\n    x\n    x = 1\nf()", "UnboundLocalError"), ("def f():\n    del x\nf()", "UnboundLocalError"),
            ("def f():\n    x = 1\n    del x\n    return x\nf()", "UnboundLocalError"),
            ("def f():\n    global x\n    del x\nf()", "NameError"), ("def f():\n    global x\n    return x\nf()", "NameError"),
            ("def f():\n    def g():\n        return x\n    g()\n    x = 1\nf()", "NameError"),
            ("def f():\n    def g():\n        return x\n    x\n    x = 1\nf()", "UnboundLocalError"),
            ("def f():\n    x = 1\n    def g():\n        nonlocal x\n        del x\n        del x\n    g()\nf()", "NameError"),
            ("def f():\n    x = 1\n    def g():\n        return x\n    del x\n    del x\nf()", "UnboundLocalError"),
            ("def f():\n    x = 1\n    def g():\n        return x\n    del x\n    g()\nf()", "NameError"),
            ("class C:\n    x", "NameError"), ("class C:\n    del x", "NameError"), ("x = 1\nclass C:\n    del x", "NameError"),
            ("def f():\n    class C:\n        x\n    x = 1\nf()", "NameError"), ("[y for x in [1]]", "NameError"),
            ("[x for x in [1]]\nx", "NameError"), ("def f(a):\n    del a\n    a\nf(1)", "UnboundLocalError"),
            ("for x in []:\n    pass\nx", "NameError"), ("try:\n    1 // 0\nexcept ZeroDivisionError as e:\n    pass\ne", "NameError"),
            ("def f():\n    try:\n        1 // 0\n    except ZeroDivisionError as e:\n        pass\n    e\nf()", "UnboundLocalError"),
        ):
            self.raises("0", word, source)

    def test_names_that_are_stored_late(self):
        self.tells("def f():\n    return x\nx = 1\ntell(f())\nx = 2\ntell(f())", 1, 2)
        self.tells("def f():\n    def g():\n        return x\n    x = 5\n    return g\ntell(f()())", 5)
        self.tells("def f():\n    k = [lambda: i for i in range(3)]\n    return [g() for g in k]\ntell(f())", ("list", 2, 2, 2))

    def test_declarations(self):
        self.tells("def f():\n    global x\n    x = 1\n    class C:\n        global y\n        y = 2\n        z = x\n    return C.z\ntell(f(), x, y)", (1, 1, 2))
        self.tells("def f():\n    x = 1\n    def g():\n        nonlocal x\n        x += 1\n        return x\n    g()\n    g()\n    return x\ntell(f())", 3)
        self.tells("def f():\n    x = 1\n    class C:\n        nonlocal x\n        x = 5\n    return x\ntell(f())", 5)
        self.tells("x = 1\ndef f():\n    x = 2\n    class C:\n        tell(x)\n        x = 3\n        tell(x)\n        def m(self):\n            return x\n    return C().m()\ntell(f())",
                   1, 3, 2)

    def test_classes_look_in_their_names_first(self):
        self.tells("def f(x):\n    class C:\n        def n(self):\n            return x\n        tell(x)\n        locals_ = 1\n    class D:\n        for x in [7]:\n            pass\n"
                   "        tell(x, [x for i in [1]])\n    return C().n()\ntell(f(3))", 3, (7, ("list", 3)), 3)

    def test_comprehensions(self):
        self.tells("x = 5\ny = [x for x in range(3)]\ntell(x, y)\nz = [(a, b) for a in range(2) for b in range(a, 2) if a or b]\ntell(z)",
                   (5, ("list", 0, 1, 2)), ("list", ("tuple", 0, 1), ("tuple", 1, 1)))
        self.tells("tell([y := x * 2 for x in range(3)], y)", (("list", 0, 2, 4), 4))
        self.tells("def f():\n    a = [w := k for k in (1, 2)]\n    return (a, w)\ntell(f())", ("tuple", ("list", 1, 2), 2))
        self.tells("def f(k):\n    return [[k for i in [1]] for j in [2]]\ntell(f(9))", ("list", ("list", 9)))

    def test_program_names(self):
        self.tells("tell(__name__)\n__name__ = 5\ntell(__name__)", "__main__", 5)


class ExceptionTests(ValuesTests):
    def test_what_can_be_raised(self):
        for source, due in (
            ("raise ValueError", ("ValueError", ())), ("raise ValueError(1, [2])", ("ValueError", (1, ("list", 2)))),
            ("class E(KeyError):\n    pass\nraise E", ("E", ())), ("class E(KeyError):\n    pass\nraise E(5)", ("E", (5,))),
            ("raise GeneratorExit", ("GeneratorExit", ())), ("raise StopIteration(1)", ("StopIteration", (1,))),
        ):
            self.assertEqual(run_source(self, source)[1][1:3], due)
        for value in ("5", "None", '"a"', "object", "object()", "Plain", "Plain()", "len", "(ValueError,)", "[ValueError]"):
            self.raises("0", "TypeError", CLASSES + f"raise {value}")
            self.raises("0", "TypeError", CLASSES + f"raise {value} from None")
        self.raises("0", "RuntimeError", "raise")
        self.tells("class E(ValueError):\n    def __init__(self):\n        tell(1)\nraise E", 1, "E")
        self.tells("class E(ValueError):\n    def __init__(self, x):\n        tell(1)\nraise E", "TypeError")

    def test_causes(self):
        source = "try:\n    raise ValueError from {}\nexcept ValueError as e:\n    tell(e.__cause__)"
        for cause, due in (("KeyError", ("instance", "KeyError", ())), ("KeyError(5)", ("instance", "KeyError", (5,))), ("None", None)):
            self.tells(source.format(cause), due)
        for cause in ("5", "object", "object()", '"a"', "len", "()"):
            self.tells(source.format(cause), "TypeError")
        self.tells("e = ValueError()\ntry:\n    raise e from KeyError\nexcept ValueError:\n    pass\ntry:\n    raise e\nexcept ValueError:\n    tell(e.__cause__)\n"
                   "try:\n    raise e from None\nexcept ValueError:\n    tell(e.__cause__)", ("instance", "KeyError", ()), None)

    def test_contexts(self):
        self.tells("""
            def names(e):
                found = []
                while e is not None:
                    found.append(e)
                    e = e.__context__
                return found
            try:
                try:
                    raise KeyError(1)
                except KeyError:
                    try:
                        1 // 0
                    except ZeroDivisionError:
                        raise ValueError(3)
            except ValueError as e:
                tell(names(e))
            try:
                raise KeyError
            except KeyError as e:
                tell(names(e))
        """, ("list", ("instance", "ValueError", (3,)), ("instance", "ZeroDivisionError", ()), ("instance", "KeyError", (1,))),
                   ("list", ("instance", "KeyError", ())))
        # A context takes the place of the one before.
        self.tells("""
            e = ValueError()
            for word in (KeyError, TypeError):
                try:
                    try:
                        raise word
                    except word:
                        raise e
                except ValueError:
                    tell(e.__context__)
            try:
                raise e
            except ValueError:
                tell(e.__context__)
        """, ("instance", "KeyError", ()), ("instance", "TypeError", ()), ("instance", "TypeError", ()))
        # What is raised again has none but its own.
        self.tells("try:\n    try:\n        raise KeyError\n    except KeyError as e:\n        raise e\nexcept KeyError as f:\n    tell(f.__context__)", None)
        self.tells("try:\n    try:\n        raise KeyError\n    except KeyError:\n        raise\nexcept KeyError as f:\n    tell(f.__context__)", None)

    def test_chains_are_cut(self):
        self.tells("""
            a = ValueError("a")
            b = KeyError("b")
            c = TypeError("c")
            try:
                try:
                    try:
                        raise a
                    except ValueError:
                        raise b
                except KeyError:
                    raise c
            except TypeError:
                try:
                    raise a
                except ValueError:
                    tell(a.__context__, c.__context__, b.__context__)
        """, (("instance", "TypeError", ("c",)), ("instance", "KeyError", ("b",)), None))
        self.tells("""
            a = ValueError("a")
            b = KeyError("b")
            try:
                raise a
            except ValueError:
                try:
                    raise b
                except KeyError:
                    try:
                        raise a
                    except ValueError:
                        tell(a.__context__, b.__context__)
        """, (("instance", "KeyError", ("b",)), None))

    def test_kinds_of_handlers(self):
        source = "try:\n    raise KeyError\nexcept {}:\n    tell(1)"
        for kind, due in (("KeyError", 1), ("LookupError", 1), ("BaseException", 1), ("(ValueError, LookupError)", 1), ("ValueError", "KeyError"),
                          ("()", "KeyError"), ("(ValueError, TypeError)", "KeyError"), ("None", "TypeError"), ("5", "TypeError"),
                          ("object", "TypeError"), ("KeyError()", "TypeError"), ("[KeyError]", "TypeError"), ("(KeyError, 5)", "TypeError"),
                          ("(5, KeyError)", "TypeError"), ("(KeyError, (KeyError,))", "TypeError"), ("Plain", "NameError")):
            self.tells(source.format(kind), due)
        # A kind that is wrong has the exception that is handled as its context.
        self.tells("try:\n    try:\n        raise KeyError\n    except 5:\n        pass\nexcept TypeError as e:\n    tell(e.__context__)", ("instance", "KeyError", ()))
        self.tells("class C:\n    pass\ntry:\n    raise KeyError\nexcept C:\n    pass", "TypeError")
        self.tells("def k(x):\n    tell(x)\n    return x\ntry:\n    raise KeyError\nexcept k(ValueError):\n    pass\nexcept k(KeyError):\n    tell(1)\nexcept k(Exception):\n    pass",
                   ("class", "ValueError"), ("class", "KeyError"), 1)

    def test_the_handled_exception(self):
        self.tells("def f():\n    raise\ntry:\n    raise KeyError(5)\nexcept KeyError:\n    try:\n        f()\n    except KeyError as e:\n        tell(e)\n"
                   "try:\n    f()\nexcept RuntimeError as e:\n    tell(e, e.__context__)", ("instance", "KeyError", (5,)), (("instance", "RuntimeError", ()), None))
        self.tells("try:\n    raise KeyError(1)\nexcept KeyError:\n    try:\n        raise ValueError(2)\n    except ValueError:\n        pass\n    try:\n        raise\n"
                   "    except KeyError as e:\n        tell(e)", ("instance", "KeyError", (1,)))

    def test_names_of_handlers_are_deleted(self):
        self.tells("e = 5\ntry:\n    raise KeyError\nexcept KeyError as e:\n    del e\ntell(1)\ntry:\n    e\nexcept NameError:\n    tell(2)", 1, 2)
        self.tells("def f():\n    for i in [1]:\n        try:\n            raise KeyError\n        except KeyError as e:\n            g = lambda: e\n            break\n    return g\n"
                   "try:\n    f()()\nexcept NameError as e:\n    tell(1)", 1)
        self.tells("try:\n    try:\n        raise KeyError\n    except KeyError as e:\n        raise ValueError\nexcept ValueError:\n    try:\n        e\n    except NameError:\n        tell(1)", 1)

    def test_asserts(self):
        self.assertEqual(run_source(self, "assert 0")[1][:3], ("raised", "AssertionError", ()))
        self.assertEqual(run_source(self, "assert [], (1, 2)")[1][:3], ("raised", "AssertionError", (("tuple", 1, 2),)))
        self.tells("def t(x):\n    tell(x)\n    return x\nassert t(1), t(2)\nassert t(0), t(3)", 1, 0, 3, "AssertionError")
        self.assertEqual(run_source(self, "AssertionError = 5\nassert 0, None")[1][:3], ("raised", "AssertionError", (None,)))


class PlainTests(ValuesTests):
    def test_every_kind(self):
        setup = CLASSES + "def f():\n    yield 1\n    def g():\n        pass\n    return g\nclass E(KeyError):\n    pass\nclass M:\n    def m(self):\n        pass\nl = lambda: 0"
        for expression, due in (
            ("None", None), ("True", True), ("10 ** 30", 10 ** 30), ('"a b"', "a b"), ("(1, (), [None])", ("tuple", 1, ("tuple",), ("list", None))),
            ('{"k": (1,), (2,): []}', ("dict", ("k", ("tuple", 1)), (("tuple", 2), ("list",)))), ("f", ("function", "f")), ("l", ("function", "<lambda>")),
            ("M().m", ("method", "M.m")), ("M.m", ("function", "M.m")), ("len", ("builtin", "len")), ("tell", ("builtin", "tell")),
            ("[].pop", ("builtin", "pop")), ("{}.get", ("builtin", "get")), ("f().close", ("builtin", "close")), ("M", ("class", "M")),
            ("object", ("class", "object")), ("M()", ("instance", "M")), ("object()", ("instance", "object")), ("E()", ("instance", "E", ())),
            ("E(1, [E()])", ("instance", "E", (1, ("list", ("instance", "E", ()))))), ("range(1, 9, 2)", ("range", 1, 9, 2)), ("f()", ("generator", "f")),
            ("(x for x in [])", ("generator", "<genexpr>")), ("iter([])", ("iterator",)), ("iter(range(2))", ("iterator",)),
        ):
            self.is_value(expression, due, setup)
        self.tells("tell()\ntell(1, None)\ntell([])", (), (1, None), ("list",))

    def test_what_lies_too_deep(self):
        def nested(depth, inner):
            return inner if depth == 0 else ("list", nested(depth - 1, inner))
        for value, shown in (("5", 5), ("None", None), ('"a"', "a"), ("True", True)):
            for depth in (1, 9, 10, 11, 40):
                due = nested(depth, shown) if depth <= 10 else nested(10, ("deep",))
                self.is_value("[" * depth + value + "]" * depth, due)
        for value, shown in (("()", ("tuple",)), ("[]", ("list",)), ("{}", ("dict",)), ("len", ("builtin", "len")), ("object()", ("instance", "object")),
                             ("ValueError(1)", ("instance", "ValueError", (1,))), ("range(1)", ("range", 0, 1, 1))):
            for depth in (8, 9, 10, 11):
                self.is_value("[" * depth + value + "]" * depth, nested(depth, shown) if depth < 10 else nested(10, ("deep",)))
        value, due = "5", 5
        for depth in range(5):
            value = f"ValueError({{1: {value}}})"
            due = ("instance", "ValueError", (("dict", (1, due)),))
        self.is_value(value, due)
        self.is_value(value.replace("5", "()"), eval(repr(due).replace("5", "('deep',)")))
        # The arguments in the outcome lie within nothing.
        self.assertEqual(run_source(self, "raise ValueError([[[[[[[[[[1]]]]]]]]]], [[[[[[[[[[[]]]]]]]]]]])")[1][2],
                         (nested(10, 1), nested(10, ("deep",))))


class TreeTests(unittest.TestCase):
    def test_the_notation_of_these_tests(self):
        self.assertEqual(tree_of("x = 1\nif x:\n    f(*y, k=2)"), [
            ("Assign", 1, [("Name", "x")], ("Constant", 1)),
            ("If", 2, ("Name", "x"), [("Expr", 3, ("Call", ("Name", "f"), [("Starred", ("Name", "y"))], [("k", ("Constant", 2))]))], []),
        ])
        self.assertEqual(told(self, "tell(1)\ntell(2, 3)\n1 // 0"), [1, (2, 3), "ZeroDivisionError"])


if __name__ == "__main__":
    unittest.main()
