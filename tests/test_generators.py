"""Generators: next, send, throw and close at every point, and yield from."""

import unittest

from tests.source import run_source
from tests.test_objects import ValuesTests
from tests.test_values import CLASSES


def fault(word, *arguments):
    return ("instance", word, arguments)


class GeneratorTests(ValuesTests):
    def logs(self, source, *due):
        """Compares the log but for the lines, the first entry and the last one."""
        log, self.outcome = run_source(self, source)
        found = [entry for entry in log if entry[0] != "line"]
        self.assertEqual(found[0], ("call", "<module>"))
        self.assertEqual(found[1:-1], list(due), source)


class NextTests(GeneratorTests):
    source = "def g(a):\n    tell(a)\n    x = yield 1\n    tell(x)\n    y = yield\n    tell(y)\n    return 7\ni = g(0)\n"

    def test_next_and_send(self):
        self.logs(self.source + "tell(i)", ("tell", ("generator", "g")))
        self.logs(self.source + "next(i)\ni.send(5)\nnext(i, 8)", ("call", "g"), ("tell", 0), ("yield", 1), ("call", "g"), ("tell", 5), ("yield", None),
                  ("call", "g"), ("tell", None), ("return", 7))
        self.tells(self.source + "tell(i.send(None), i.send([]))", 0, ("list",), (1, None))
        self.tells(self.source + "for x in i:\n    tell(x)", 0, 1, None, None, None)
        self.tells(self.source + "i.send(5)", "TypeError")
        self.tells(self.source + "try:\n    i.send(5)\nexcept TypeError:\n    tell(next(i))", 0, 1)
        for wrong in ("i.send()", "i.send(1, 2)", "i.send(x=1)", "i.close(1)", "i.throw()", "i.throw(KeyError, 1)", "next(i, 1, 2)"):
            self.tells(self.source + wrong, "TypeError")

    def test_ended_ones(self):
        end = self.source + "list(i)\n"
        self.tells(end + "tell(next(i, 9), list(i))\ntry:\n    i.send(5)\nexcept StopIteration as e:\n    tell(e.args)", 0, None, None, (9, ("list",)), ("tuple",))
        self.tells(end + "tell(i.close())\ntell(i)", 0, None, None, None, ("generator", "g"))
        self.tells(end + "i.throw(KeyError(5))", 0, None, None, "KeyError")
        self.tells("def g():\n    yield 1\n    1 // 0\ni = g()\nnext(i)\ntry:\n    next(i)\nexcept ZeroDivisionError:\n    tell(next(i, 9))", 9)

    def test_the_value_of_the_end(self):
        for value, due in (("7", ("tuple", 7)), ("None", ("tuple",)), ("(1, 2)", ("tuple", ("tuple", 1, 2))), ("StopIteration(1)", ("tuple", fault("StopIteration", 1)))):
            self.tells(f"def g():\n    return {value}\n    yield\ntry:\n    next(g())\nexcept StopIteration as e:\n    tell(e.args)", due)

    def test_what_raises_a_stop_iteration(self):
        self.tells("def g():\n    yield 1\n    raise StopIteration(5)\ni = g()\nnext(i)\ntry:\n    next(i)\nexcept RuntimeError as e:\n    tell(e, e.__cause__, e.__context__)",
                   (fault("RuntimeError"), fault("StopIteration", 5), fault("StopIteration", 5)))
        self.tells("def g():\n    yield next(iter([]))\ntry:\n    list(g())\nexcept RuntimeError as e:\n    tell(e.__cause__)", fault("StopIteration"))
        self.tells("tell(list(next(iter([])) for x in [1]))", "RuntimeError")
        self.tells("class S(StopIteration):\n    pass\ndef g():\n    raise S\n    yield\nnext(g(), 5)", "RuntimeError")
        log, outcome = run_source(self, "def g():\n    raise StopIteration\n    yield\nnext(g())")
        self.assertIn(("leave", "RuntimeError"), log)
        # One that has not begun is left as it is.
        self.tells("def g():\n    yield\ng().throw(StopIteration(5))", "StopIteration")

    def test_running_ones(self):
        source = "def g():\n    try:\n        {}\n    except ValueError as e:\n        tell(e)\n    yield 1\ni = g()\ntell(next(i))"
        for action in ("next(i)", "i.send(None)", "i.send(5)", "i.throw(KeyError)", "i.close()", "list(i)", "[*i]", "next(i, 3)"):
            self.logs(source.format(action), ("call", "g"), ("tell", fault("ValueError")), ("yield", 1), ("tell", 1))
        self.tells("def g():\n    yield from i\ni = g()\nlist(i)", "ValueError")
        self.tells("def g():\n    for x in i:\n        pass\n    yield\ni = g()\nlist(i)", "ValueError")
        # What is no exception is refused first.
        self.tells("def g():\n    i.throw(5)\n    yield\ni = g()\nlist(i)", "TypeError")

    def test_lines_go_on_where_they_were(self):
        log, _ = run_source(self, "def g():\n    x = [(yield 1), (yield 2)]\n    return x\nfor y in g():\n    pass")
        self.assertEqual([entry[1] for entry in log if entry[0] == "line"], [1, 4, 2, 5, 4, 5, 4, 3])

    def test_yields_amid_the_parts_of_a_call(self):
        self.tells("def f(*a, **k):\n    return (a, k)\ndef g():\n    tell(f((yield 1), *(yield 2), x=(yield 3), **(yield 4)))\ni = g()\nnext(i)\ni.send(10)\ni.send([20])\ni.send(30)\n"
                   "try:\n    i.send({'y': 40})\nexcept StopIteration:\n    pass", ("tuple", ("tuple", 10, 20), ("dict", ("x", 30), ("y", 40))))
        # The value that is stored comes ahead of the place.
        self.tells("def g():\n    x = [0, 1, 2]\n    x[(yield 1)] += yield 2\n    tell(x)\n    x[(yield):(yield)] = yield\n    return x\ni = g()\nnext(i)\ni.send(1)\ni.send(5)\ni.send('ab')\n"
                   "i.send(0)\ntry:\n    i.send(2)\nexcept StopIteration as e:\n    tell(e.value)", ("list", 0, 6, 2), ("list", "a", "b", 2))
        self.tells("def g():\n    return (yield 1) < (yield 2) < (yield 3)\ni = g()\nnext(i)\ni.send(1)\ni.send(2)\ntry:\n    i.send(3)\nexcept StopIteration as e:\n    tell(e.value)", True)
        self.tells("def g():\n    with (yield 1) as x:\n        yield x\nclass C:\n    def __enter__(self):\n        return 5\n    def __exit__(self, *a):\n        tell(a)\ni = g()\nnext(i)\n"
                   "tell(i.send(C()))\ntell(next(i, 9))", 5, ("tuple", None, None, None), 9)

    def test_parameters_cells_and_classes(self):
        self.tells("def g(a, b=2, *c, **d):\n    def h():\n        nonlocal a\n        a += 1\n        return a\n    yield (a, b, c, d)\n    yield h()\n    yield a\ntell(list(g(1, 3, 4, k=5)))",
                   ("list", ("tuple", 1, 3, ("tuple", 4), ("dict", ("k", 5))), 2, 2))
        self.tells("g = lambda: (yield 5)\ntell(list(g()))", ("list", 5))
        self.tells("class C:\n    def __iter__(self):\n        yield 1\n        yield 2\ntell(list(C()), [*C()])", (("list", 1, 2), ("list", 1, 2)))


class ThrowTests(GeneratorTests):
    source = """
def g():
    try:
        tell(1)
        x = yield 2
        tell(x)
    except KeyError as e:
        tell(e)
        yield 3
    finally:
        tell(4)
    yield 5
i = g()
"""

    def test_not_begun(self):
        self.logs(self.source + "i.throw(KeyError(9))", ("call", "g"), ("leave", "KeyError"))
        self.assertEqual(self.outcome, ("raised", "KeyError", (9,), [("<module>", 13), ("g", 1)]))
        self.tells(self.source + "try:\n    i.throw(KeyError)\nexcept KeyError:\n    tell(next(i, 9))", 9)
        self.logs(self.source + "tell(i.close())\ntell(next(i, 9))", ("tell", None), ("tell", 9))

    def test_at_rest(self):
        self.tells(self.source + "next(i)\ntell(i.throw(KeyError(9)))\ntell(next(i))", 1, fault("KeyError", 9), 3, 4, 5)
        self.tells(self.source + "next(i)\ntell(i.throw(KeyError))\ntry:\n    i.throw(ValueError(7))\nexcept ValueError as e:\n    tell(e, e.__context__)\ntell(next(i, 9))",
                   1, fault("KeyError"), 3, 4, (fault("ValueError", 7), fault("KeyError")), 9)
        self.tells(self.source + "next(i)\ni.throw(ValueError)", 1, 4, "ValueError")
        self.tells(self.source + "list(i)\ni.throw(ValueError(3))", 1, None, 4, "ValueError")
        self.tells("def g():\n    try:\n        yield 1\n    except KeyError:\n        return 5\ni = g()\nnext(i)\ntry:\n    i.throw(KeyError)\nexcept StopIteration as e:\n    tell(e.value)", 5)

    def test_what_is_thrown(self):
        for value in ("5", "None", "object", "object()", "(KeyError,)", "'KeyError'", "len"):
            self.tells(self.source + f"next(i)\ntry:\n    i.throw({value})\nexcept TypeError:\n    tell(next(i))", 1, None, 4, 5)
        self.tells("class E(KeyError):\n    def __init__(self):\n        tell(6)\ndef g():\n    try:\n        yield\n    except E as e:\n        tell(e)\ni = g()\nnext(i)\ni.throw(E)",
                   6, fault("E"), "StopIteration")
        self.tells("class E(KeyError):\n    def __init__(self, x):\n        pass\ndef g():\n    yield\ni = g()\nnext(i)\ntry:\n    i.throw(E)\nexcept TypeError:\n    tell(next(i, 9))", 9)

    def test_contexts(self):
        source = "def g():\n    {}\ni = g()\nnext(i)\ntry:\n    raise ValueError(1)\nexcept ValueError:\n    try:\n        i.throw({})\n    except KeyError as e:\n        tell(e.__context__)"
        # Its own handled exception goes ahead of the one of who throws.
        self.tells(source.format("yield", "KeyError"), fault("ValueError", 1))
        self.tells(source.format("try:\n        raise TypeError(2)\n    except TypeError:\n        yield", "KeyError"), fault("TypeError", 2))
        self.tells("def g():\n    yield\nt = g()\ntry:\n    raise ValueError(1)\nexcept ValueError:\n    try:\n        t.throw(KeyError)\n    except KeyError as e:\n        tell(e.__context__)", fault("ValueError", 1))
        self.tells("def g():\n    yield\nt = g()\nlist(t)\ntry:\n    raise ValueError(1)\nexcept ValueError:\n    try:\n        t.throw(KeyError)\n    except KeyError as e:\n        tell(e.__context__)", fault("ValueError", 1))
        self.tells("def g():\n    try:\n        yield\n    except GeneratorExit as e:\n        tell(e.__context__)\nt = g()\nnext(t)\ntry:\n    raise ValueError(1)\nexcept ValueError:\n    t.close()", fault("ValueError", 1))

    def test_the_handled_exception_of_a_generator(self):
        # It has its own; where it has none, that of who lets it go on counts.
        self.tells("""
            def g():
                try:
                    yield 1
                    raise
                except Exception as e:
                    tell(e)
                yield 2
                try:
                    raise KeyError(5)
                except KeyError:
                    yield 3
                    try:
                        raise
                    except KeyError as e:
                        tell(e)
                    yield 4
                try:
                    raise
                except Exception as e:
                    tell(e)
                yield 5
            i = g()
            next(i)
            try:
                raise ValueError(1)
            except ValueError:
                next(i)
                next(i)
                next(i)
                try:
                    raise
                except ValueError as e:
                    tell(e)
            try:
                raise TypeError(3)
            except TypeError:
                next(i)
            try:
                raise
            except RuntimeError as e:
                tell(e)
        """, fault("ValueError", 1), fault("KeyError", 5), fault("ValueError", 1), fault("TypeError", 3), fault("RuntimeError"))
        # What it handles at rest is not what the others handle.
        self.tells("def g():\n    try:\n        1 // 0\n    except ZeroDivisionError:\n        yield\ni = g()\nnext(i)\nraise", "RuntimeError")
        self.tells("def g():\n    try:\n        1 // 0\n    except ZeroDivisionError:\n        yield\ni = g()\nnext(i)\ntry:\n    raise KeyError\nexcept KeyError as e:\n    tell(e.__context__)", None)

    def test_close(self):
        source = "def g():\n    try:\n        yield 1\n    {}\ni = g()\nnext(i)\ntell(i.close())\ntell(next(i, 9))"
        self.logs(source.format("finally:\n        tell(5)"), ("call", "g"), ("yield", 1), ("call", "g"), ("tell", 5), ("leave", "GeneratorExit"), ("tell", None), ("tell", 9))
        self.tells(source.format("except GeneratorExit:\n        return 7"), 7, 9)
        self.tells(source.format("except GeneratorExit:\n        pass"), None, 9)
        self.tells(source.format("except GeneratorExit:\n        raise StopIteration"), "RuntimeError")
        self.tells(source.format("except GeneratorExit:\n        raise KeyError"), "KeyError")
        self.tells(source.format("except GeneratorExit:\n        raise"), None, 9)
        self.tells(source.format("except Exception:\n        tell(3)"), None, 9)
        self.tells(source.format("except GeneratorExit:\n        yield 4").replace("tell(i.close())", "try:\n    i.close()\nexcept RuntimeError as e:\n    tell(e)"), fault("RuntimeError"), 9)
        self.logs("def g():\n    yield 1\ni = g()\nnext(i)\ni.close()\ni.close()", ("call", "g"), ("yield", 1), ("call", "g"), ("leave", "GeneratorExit"))
        self.logs("def g():\n    yield 1\ni = g()\ni.close()\ntell(next(i, 3))", ("tell", 3))

    def test_contexts_of_with_and_loops(self):
        self.tells(CLASSES + """
class W:
    def __enter__(self):
        tell("in")
    def __exit__(self, kind, value, trace):
        tell("out", kind)
        return isinstance(value, KeyError)
def g():
    for i in range(2):
        try:
            with W():
                yield i
        finally:
            tell("f")
    tell("end")
i = g()
next(i)
tell(i.throw(KeyError))
tell(i.close())
""", "in", ("out", ("class", "KeyError")), "f", "in", 1, ("out", ("class", "GeneratorExit")), "f", None)


class DelegationTests(GeneratorTests):
    inner = """
def h():
    try:
        x = yield 1
        tell(x)
        y = yield 2
        tell(y)
    except KeyError as e:
        tell(e)
        yield 3
    finally:
        tell("h")
    return 5
def g():
    try:
        tell((yield from h()))
    except ValueError as e:
        tell(e, e.__context__)
        yield 6
    finally:
        tell("g")
    return 8
i = g()
"""

    def test_the_log(self):
        self.logs("def h():\n    yield 1\n    return 2\ndef g():\n    tell((yield from h()))\ni = g()\nnext(i)\nnext(i, 0)", ("call", "g"), ("call", "h"), ("yield", 1), ("yield", 1),
                  ("call", "g"), ("call", "h"), ("return", 2), ("tell", 2), ("return", None))

    def test_send_and_end(self):
        self.tells(self.inner + "tell(next(i))\ntell(i.send(10))\ntry:\n    i.send(20)\nexcept StopIteration as e:\n    tell(e.value)", 1, 10, 2, 20, "h", 5, "g", 8)

    def test_throw(self):
        self.logs(self.inner + "next(i)\ni.throw(KeyError(9))", ("call", "g"), ("call", "h"), ("yield", 1), ("yield", 1), ("call", "h"), ("tell", fault("KeyError", 9)),
                  # The outer one tells nothing.
                  ("yield", 3))
        self.tells(self.inner + "next(i)\ntell(i.throw(ValueError(7)))", "h", (fault("ValueError", 7), None), 6)
        self.tells(self.inner + "next(i)\ni.throw(KeyError)\ntell(i.throw(ValueError(7)))", fault("KeyError"), "h", (fault("ValueError", 7), fault("KeyError")), 6)
        self.tells(self.inner + "next(i)\ni.throw(KeyError)\ntry:\n    next(i)\nexcept StopIteration as e:\n    tell(e.value)", fault("KeyError"), "h", 5, "g", 8)
        self.tells(self.inner + "next(i)\ni.throw(TypeError)", "h", "g", "TypeError")

    def test_throw_to_one_that_returns(self):
        self.tells("def h():\n    try:\n        yield 1\n    except KeyError:\n        return 5\ndef g():\n    tell((yield from h()))\n    yield 6\ni = g()\nnext(i)\ntell(i.throw(KeyError))", 5, 6)
        self.tells("def h():\n    yield 1\ndef g():\n    try:\n        tell((yield from h()))\n    except RuntimeError as e:\n        tell(e.__cause__)\n    yield 6\ni = g()\nnext(i)\ntell(i.throw(StopIteration(4)))",
                   fault("StopIteration", 4), 6)
        # An inner one that has ended by now raises what is thrown where the outer one rests.
        self.tells("def h():\n    yield 1\nx = h()\ndef g():\n    tell((yield from x))\n    yield 6\ni = g()\nnext(i)\nlist(x)\ntell(i.throw(StopIteration(4)))", 4, 6)

    def test_close(self):
        self.tells(self.inner + "next(i)\ntell(i.close())", "h", "g", None)
        self.logs("def h():\n    yield 1\ndef g():\n    yield from h()\ni = g()\nnext(i)\ni.close()", ("call", "g"), ("call", "h"), ("yield", 1), ("yield", 1), ("call", "h"), ("leave", "GeneratorExit"),
                  ("call", "g"), ("leave", "GeneratorExit"))
        self.tells(self.inner + "next(i)\ni.throw(GeneratorExit(3))", "h", "g", "GeneratorExit")
        # What closing the inner one raises is raised where the outer one rests.
        self.tells("def h():\n    try:\n        yield 1\n    finally:\n        raise KeyError(2)\ndef g():\n    try:\n        yield from h()\n    except KeyError as e:\n        tell(e, e.__context__)\ni = g()\nnext(i)\ntell(i.close())",
                   (fault("KeyError", 2), fault("GeneratorExit")), None)
        self.tells("def h():\n    try:\n        yield 1\n    except GeneratorExit:\n        yield 2\ndef g():\n    try:\n        yield from h()\n    except RuntimeError as e:\n        tell(e)\n        yield 3\ni = g()\nnext(i)\ni.close()",
                   fault("RuntimeError"), "RuntimeError")
        self.tells("def h():\n    yield 1\nx = h()\ndef g():\n    yield from x\ni = g()\nnext(i)\nnext(x, 0)\ntell(i.close(), next(x, 9))", (None, 9))

    def test_several_within_one_another(self):
        source = "def f(n):\n    try:\n        tell((yield from f(n - 1)) if n else (yield 5))\n    except KeyError as e:\n        tell(n, e)\n        raise\n    return n\ni = f(3)\n"
        self.tells(source + "tell(next(i))\ntry:\n    i.send(9)\nexcept StopIteration as e:\n    tell(e.value)", 5, 9, 0, 1, 2, 3)
        self.tells(source + "next(i)\ni.throw(KeyError(1))", *[(n, fault("KeyError", 1)) for n in range(4)], "KeyError")
        self.logs(source + "next(i)\ni.close()", *[("call", "f")] * 4, *[("yield", 5)] * 4, *[("call", "f"), ("leave", "GeneratorExit")] * 4)

    def test_running_ones(self):
        self.tells("def h():\n    try:\n        i.throw(KeyError)\n    except ValueError as e:\n        tell(e)\n    yield 1\ndef g():\n    yield from h()\ni = g()\ntell(next(i))", fault("ValueError"), 1)
        self.tells("def h():\n    yield 1\n    try:\n        next(i)\n    except ValueError as e:\n        tell(e)\ndef g():\n    yield from h()\ni = g()\nnext(i)\ntell(next(i, 4))", fault("ValueError"), 4)

    def test_other_things(self):
        for value, due in (("[1, 2]", (1, 2)), ("(3,)", (3,)), ('"ab"', ("a", "b")), ("range(2)", (0, 1)), ("{5: 6}", (5,)), ("Three()", (1, 2, 3)), ("iter([7])", (7,))):
            end = "ended" if value == "Three()" else None
            self.tells(CLASSES + f"def g():\n    x = yield from {value}\n    tell(x)\nfor y in g():\n    tell(y)", *due, end)
        for value in ("5", "None", "len", "Plain()"):
            self.tells(CLASSES + f"def g():\n    yield from {value}\nnext(g())", "TypeError")
        # What is sent to what is no generator; what is thrown to it is raised where the outer one rests.
        self.tells("def g():\n    try:\n        yield from [1, 2]\n    except AttributeError as e:\n        tell(e)\n    yield 5\ni = g()\nnext(i)\ntell(i.send(None))\ntell(i.send(7))", 2, fault("AttributeError"), 5)
        self.tells("def g():\n    try:\n        yield from [1, 2]\n    except KeyError as e:\n        tell(e)\n    yield 5\ni = g()\nnext(i)\ntell(i.throw(KeyError))", fault("KeyError"), 5)
        self.tells("def g():\n    tell((yield from [1, 2]))\n    yield 5\ni = g()\nnext(i)\ntell(i.throw(StopIteration(4)))", 4, 5)
        self.tells("def g():\n    yield from [1]\ni = g()\nnext(i)\ntell(i.close())", None)
        self.tells(CLASSES + "class T(Three):\n    def throw(self, x):\n        tell(0)\n    def close(self):\n        tell(0)\ndef g():\n    yield from T()\ni = g()\nnext(i)\ntell(i.close())", None)

    def test_lines(self):
        log, _ = run_source(self, "def h():\n    yield 1\n    yield 2\ndef g():\n    yield from h()\n    pass\nfor x in g():\n    pass")
        self.assertEqual([entry[1] for entry in log if entry[0] == "line"], [1, 4, 7, 5, 2, 8, 7, 3, 8, 7, 6])

    def test_generator_expressions(self):
        self.logs("i = (x for x in (1, 2) if x > 1)\ntell(next(i))", ("call", "<genexpr>"), ("yield", 2), ("tell", 2))
        self.tells("def f():\n    tell(1)\n    return [1, 2]\ni = (x for x in f())\ntell(2)\ntell(list(i))", 1, 2, ("list", 1, 2))
        self.tells("i = (x for x in 5)", "TypeError")
        self.tells("i = (y for x in [1] for y in 5)\ntell(1)\nnext(i)", 1, "TypeError")
        self.tells("i = (x for x in [1, 2, 3])\ntell(i.send(None), i.send(5), i.close(), next(i, 0))", (1, 2, None, 0))


if __name__ == "__main__":
    unittest.main()
