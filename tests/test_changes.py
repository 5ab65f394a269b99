"""Programs compared, moved, and with locals renamed."""

import unittest

from codewalk.changes import changed, moved, renamed
from codewalk.codes import Code
from codewalk.errors import NoName, NoNumber, NoProgram, NoTree
from codewalk.scopes import scopes
from codewalk.trees import check
from codewalk.walker import walk
from tests.programs import Maker
from tests.runs import RunMaker
from tests.samples import numbers, showcase, small_trees, with_tuples
from tests.source import run_tree, tree_of
from tests.test_check_wrong import junk
from tests.test_compiled import parts_compiled

BASE = """
def f(a, b=1):
    c = a + b
    return [c for d in a]
class C:
    def m(self):
        return "text"
x = f(1)
"""


def words(one, other):
    """What has changed, but for what is the same."""
    return [told for told in changed(tree_of(one), tree_of(other)) if told[1] != "same"]


class ChangedTests(unittest.TestCase):
    def replaced(self, before, after, *due):
        self.assertIn(before, BASE)
        self.assertEqual(words(BASE, BASE.replace(before, after, 1)), list(due), (before, after))

    def test_the_example(self):
        tree = [("Assign", 1, [("Name", "x")], ("BinOp", ("Constant", 2), "+", ("Constant", 3)))]
        self.assertEqual(changed(tree, moved(tree, 1, 4)), [("<module>", "lines")])

    def test_beside_itself(self):
        due = [(path, "same") for path in ("<module>", "f", "f.<locals>.<listcomp>", "C", "C.m")]
        self.assertEqual(changed(tree_of(BASE), tree_of(BASE)), due)
        self.assertEqual(changed(one=tree_of(BASE), other=with_tuples(tree_of(BASE))), due)

    def test_what_is_told_of_each_change(self):
        self.replaced("return [", "\n\n    return [", ("<module>", "lines"), ("f", "lines"), ("f.<locals>.<listcomp>", "lines"), ("C", "lines"), ("C.m", "lines"))
        self.replaced('"text"', '"other"', ("C.m", "names"))
        self.replaced('"text"', "5", ("C.m", "rows"))
        self.replaced("f(1)", "f(2)", ("<module>", "rows"))
        self.replaced("f(1)", "f(True)", ("<module>", "rows"))
        self.replaced("b=1", "b=True", ("<module>", "rows"))
        self.replaced("b=1", "b=2", ("<module>", "rows"))
        self.replaced("c = a + b", "c = b + a", ("f", "rows"))
        self.replaced("c = a + b", "c = a - b", ("f", "rows"))
        self.replaced("c = a + b", "if a:\n        c = b", ("<module>", "lines"), ("f", "rows"), ("f.<locals>.<listcomp>", "lines"), ("C", "lines"), ("C.m", "lines"))
        self.replaced("x = f(1)", "y = f(1)", ("<module>", "names"))
        self.replaced("x = f(1)", "x = g(1)", ("<module>", "rows"))
        self.replaced("self", "me", ("C.m", "names"))
        self.replaced("f(a, b=1)", "f(a, b=1, *r)", ("f", "rows"))
        self.replaced("f(a, b=1)", "f(a, *, b=1)", ("<module>", "rows"), ("f", "rows"))
        self.replaced("for d in a", "for e in a", ("f.<locals>.<listcomp>", "names"))
        self.replaced("[c for d in a]", "[d for d in a]", ("f", "rows"), ("f.<locals>.<listcomp>", "rows"))

    def test_names_of_scopes(self):
        self.replaced("def m(", "def n(", ("C", "names"), ("C.n", "new"), ("C.m", "gone"))
        self.replaced("class C", "class D", ("<module>", "names"), ("D", "new"), ("D.m", "new"), ("C", "gone"), ("C.m", "gone"))
        # The code is the same but for its name and path, in a scope of the same path there is none such.
        self.assertEqual(words("f = lambda: 1", "f = lambda: 2"), [("<lambda>", "rows")])

    def test_codes_among_the_constants_are_taken_as_equal(self):
        self.assertEqual(changed(tree_of("def f():\n    return 1"), tree_of("def f():\n    return 2")), [("<module>", "same"), ("f", "rows")])

    def test_strings_in_tuples_are_no_strings(self):
        self.assertEqual(words('x = ("a", 1)', 'x = ("b", 1)'), [("<module>", "rows")])
        self.assertEqual(words("f(a=1, b=2)", "f(a=1, c=2)"), [("<module>", "rows")])
        self.assertEqual(words('x = "a"', "x = None"), [("<module>", "rows")])
        self.assertEqual(words('x = ["a", "b"]', 'x = ["a", "c"]'), [("<module>", "names")])
        self.assertEqual(words('x = ["a", "b"]', 'x = ["a", "a"]'), [("<module>", "rows")])

    def test_names_and_lines_at_once_are_names(self):
        self.assertEqual(words("x = 1", "pass\ny = 1"), [("<module>", "rows")])
        one, other = [("Expr", 1, ("Name", "x"))], [("Expr", 5, ("Name", "y"))]
        self.assertEqual(changed(one, other), [("<module>", "names")])

    def test_functions_that_come_and_go(self):
        more = BASE + "def g():\n    pass\n"
        self.assertEqual(words(BASE, more), [("<module>", "rows"), ("g", "new")])
        self.assertEqual(words(more, BASE), [("<module>", "rows"), ("g", "gone")])
        self.assertEqual(changed(tree_of("def f():\n    def g():\n        pass"), tree_of("class f:\n    class g:\n        pass")),
                         [("<module>", "rows"), ("f", "rows"), ("f.g", "new"), ("f.<locals>.g", "gone")])

    def test_several_scopes_of_one_path(self):
        one = "[lambda: 1, lambda: 2, lambda: 3]"
        self.assertEqual(changed(tree_of(one), tree_of("[lambda: 1, lambda: 9]")),
                         [("<module>", "rows"), ("<lambda>", "same"), ("<lambda>", "rows"), ("<lambda>", "gone")])
        self.assertEqual(changed(tree_of("[lambda: 2, lambda: 1]"), tree_of(one)),
                         [("<module>", "rows"), ("<lambda>", "rows"), ("<lambda>", "rows"), ("<lambda>", "new")])
        self.assertEqual(changed(tree_of("def f():\n    pass\ndef f():\n    return 1"), tree_of("def f():\n    return 1")),
                         [("<module>", "rows"), ("f", "rows"), ("f", "gone")])

    def test_the_order(self):
        one, other = "def a():\n    pass\ndef b():\n    pass", "def c():\n    pass\ndef b():\n    pass\ndef d():\n    pass"
        self.assertEqual([path for path, _ in changed(tree_of(one), tree_of(other))], ["<module>", "c", "b", "d", "a"])

    def test_errors(self):
        right, no_tree, no_program, no_scopes = tree_of("x"), [("Pass", 0)], tree_of("return"), tree_of("nonlocal x")
        for one, other, error in (
            (no_tree, right, NoTree), (right, no_tree, NoTree), (no_tree, no_program, NoTree), (no_program, right, NoProgram), (right, no_program, NoProgram),
            (no_program, no_tree, NoProgram), (no_scopes, no_tree, NoProgram), (None, None, NoTree), (right, no_scopes, NoProgram),
        ):
            with self.assertRaises(error):
                changed(one, other)

    def test_both_trees_stay(self):
        one, other = tree_of(BASE), tree_of(BASE.replace("x", "y"))
        kept = repr((one, other))
        first = changed(one, other)
        self.assertEqual(changed(one, other), first)
        self.assertIsNot(changed(one, other), first)
        self.assertEqual(repr((one, other)), kept)

    def test_random_programs_against_the_codes_themselves(self):
        pick, told = numbers(101), 0
        while told < 60:
            one, other = Maker(pick, 40).program(), Maker(pick, 40).program()
            try:
                found = changed(one, other)
                first, second = self.codes(one), self.codes(other)
            except NoProgram:
                continue
            told += 1
            left = list(first)
            due = []
            for path, code in second:
                same = [pair for pair in left if pair[0] == path]
                if not same:
                    due.append((path, "new"))
                    continue
                left.remove(same[0])
                due.append((path, self.word(same[0][1], code)))
            self.assertEqual(found, due + [(path, "gone") for path, _ in left])

    def codes(self, tree):
        """The codes of a tree by the numbers of their scopes, with their paths."""
        return [(code.path, code) for code in parts_compiled(tree, True)]

    def word(self, one, other):
        def parts(code, names, lines):
            constants = ["code" if isinstance(value, Code) else "string" if isinstance(value, str) and not names else repr(value) for value in code.constants]
            found = [code.argcount, code.onlycount, code.stacksize, code.flags, code.code, code.kinds, code.handlers, constants]
            if names:
                found += [code.names, code.slots, code.name, code.path]
            return found + ([code.line, code.lines] if lines else [])
        for word, names, lines in (("same", True, True), ("lines", True, False), ("names", False, False)):
            if parts(one, names, lines) == parts(other, names, lines):
                return word
        return "rows"


class MovedTests(unittest.TestCase):
    def test_all_lines_from_one_on(self):
        tree = tree_of("x = 1\ntry:\n    y\nexcept z:\n    5\n\ndef f():\n    pass")
        self.assertEqual(moved(tree, 3, 10), (
            ("Assign", 1, (("Name", "x"),), ("Constant", 1)),
            ("Try", 2, (("Expr", 13, ("Name", "y")),), ((14, ("Name", "z"), None, (("Expr", 15, ("Constant", 5)),)),), (), ()),
            ("Function", 17, "f", ((), (), None, (), (), None), (("Pass", 18),), ()),
        ))

    def test_rows_become_tuples(self):
        for tree in [*small_trees(), showcase()]:
            for given in (tree, with_tuples(tree)):
                kept = repr(given)
                self.assertEqual(moved(given, 1, 0), with_tuples(tree))
                self.assertEqual(moved(tree=given, line=10 ** 7, more=3), with_tuples(tree))
                self.assertEqual(repr(given), kept)

    def test_constants_stay(self):
        tree = [("Expr", 5, ("List", [("Constant", 7), ("Constant", True), ("Constant", "Pass")])), ("Global", 6, ["Name", "x"]),
                ("Expr", 7, ("Call", ("Name", "f"), [], [("Constant", ("List", [("Constant", 9)])), ("Pass", ("Name", "y"))]))]
        self.assertEqual(moved(tree, 1, 100), (
            ("Expr", 105, ("List", (("Constant", 7), ("Constant", True), ("Constant", "Pass")))), ("Global", 106, ("Name", "x")),
            ("Expr", 107, ("Call", ("Name", "f"), (), (("Constant", ("List", (("Constant", 9),))), ("Pass", ("Name", "y"))))),
        ))

    def test_lines_of_all_sorts(self):
        tree = tree_of("pass\npass")
        self.assertEqual([node[1] for node in moved(tree, -5, 1)], [2, 3])
        self.assertEqual([node[1] for node in moved(tree, 2, 10 ** 20)], [1, 2 + 10 ** 20])
        self.assertEqual([node[1] for node in moved(tree, 3, 7)], [1, 2])
        far = moved(tree, 2, 10 ** 6)
        with self.assertRaises(NoTree) as caught:
            check(far)
        self.assertEqual(caught.exception.place, (1,))
        with self.assertRaises(NoTree):
            moved(far, 1, 0)
        self.assertIsNone(check(moved(tree, 2, 10 ** 6 - 2)))

    def test_twice_is_once_by_both(self):
        pick = numbers(102)
        for _ in range(40):
            tree = Maker(pick, 40).program()
            line, one, other = pick.randint(1, 40), pick.randint(0, 9), pick.randint(0, 9)
            self.assertEqual(moved(moved(tree, line, one), line, other), moved(tree, line, one + other))

    def test_errors(self):
        tree = tree_of("pass")
        for value in (-1, -10 ** 20, True, False, None, "1", 1.5, [], (1,), {}):
            with self.assertRaises(NoNumber) as caught:
                moved(tree, 1, value)
            self.assertIs(caught.exception.value, value)
        for thing in [*junk(), None, [], [("Pass", 0)], "x"]:
            with self.assertRaises(NoTree):
                moved(thing, 1, -1)
        # What has no meaning is a tree.
        self.assertEqual(moved(tree_of("break"), 1, 1), (("Break", 2),))

    def test_lines_alone_change(self):
        pick, told = numbers(103), 0
        while told < 40:
            tree = RunMaker(pick, 20).program()
            try:
                log, outcome = walk(tree, 800)
            except NoProgram:
                continue
            told += 1
            line, more = pick.randint(1, 60), pick.randint(0, 30)
            other = moved(tree, line, more)
            self.assertLessEqual({word for _, word in changed(tree, other)}, {"same", "lines"})

            def shift(number):
                return number if number is None or number < line else number + more
            due = [("line", shift(entry[1])) if entry[0] == "line" else entry for entry in log]
            if outcome[0] == "raised":
                outcome = (*outcome[:3], [(path, shift(number)) for path, number in outcome[3]])
            self.assertEqual(walk(other, 800), (due, outcome))


class RenamedTests(unittest.TestCase):
    def renamed(self, source, path, name, other, due):
        tree = tree_of(source)
        kept = repr(tree)
        number = [scope[2] for scope in scopes(tree)].index(path)
        found = renamed(tree, number, name, other)
        self.assertEqual(found, with_tuples(tree_of(due)))
        self.assertEqual(renamed(with_tuples(tree), number, name, other), found)
        self.assertEqual(repr(tree), kept)
        self.assertEqual(renamed(found, number, other, name), with_tuples(tree))
        if name not in [scope[1] for scope in scopes(tree)]:
            self.assertLessEqual({word for _, word in changed(tree, found)}, {"same", "names"})

    def test_each_place_that_binds_or_uses(self):
        self.renamed("""
            def f(a):
                x = a + x
                x += 1
                x.y = x[x] = x
                (x, [*x]) = x
                del x, x.x, x[x]
                for x in x:
                    pass
                with x as x:
                    x
                try:
                    pass
                except x as x:
                    x
                (x := x)
                f(x, *x, k=x, **x)
                {x: x}
                x if x else x < x
                [x[x:x], -x, x and x]
                assert x, x
                raise x from x
                return lambda z=x: z
        """, "f", "x", "w", """
            def f(a):
                w = a + w
                w += 1
                w.y = w[w] = w
                (w, [*w]) = w
                del w, w.x, w[w]
                for w in w:
                    pass
                with w as w:
                    w
                try:
                    pass
                except w as w:
                    w
                (w := w)
                f(w, *w, k=w, **w)
                {w: w}
                w if w else w < w
                [w[w:w], -w, w and w]
                assert w, w
                raise w from w
                return lambda z=w: z
        """)

    def test_words_that_stay(self):
        self.renamed("def f():\n    x = 1\n    g(x=x).x = 'x'\n    y = x.x", "f", "x", "w", "def f():\n    w = 1\n    g(x=w).x = 'x'\n    y = w.x")

    def test_functions_and_classes_that_are_locals(self):
        self.renamed("def f():\n    def x():\n        pass\n    x()", "f", "x", "w", "def f():\n    def w():\n        pass\n    w()")
        self.renamed("def f():\n    @x\n    class x(x):\n        pass", "f", "x", "w", "def f():\n    @w\n    class w(w):\n        pass")

    def test_inner_scopes_that_have_the_name_for_their_own(self):
        tree = tree_of("""
            def f():
                x = 1
                def g(x, y=x):
                    return x
                h = lambda x, k=x: x
                class C(x):
                    x = 2
                    x
                [x for x in x]
                {x: x for x in y for y in x}
                return x
        """)
        # The name that comes back would be known inside.
        found = renamed(tree, 1, "x", "w")
        self.assertEqual(found, with_tuples(tree_of("""
            def f():
                w = 1
                def g(x, y=w):
                    return x
                h = lambda x, k=w: x
                class C(w):
                    x = 2
                    x
                [x for x in w]
                {x: x for x in y for y in x}
                return w
        """)))
        with self.assertRaises(NoName):
            renamed(found, 1, "w", "x")

    def test_comprehensions(self):
        self.renamed("[x for a in b for x in a if x]", "<listcomp>", "x", "w", "[w for a in b for w in a if w]")
        self.renamed("{k: v for k, v in z if k}", "<dictcomp>", "k", "w", "{w: v for w, v in z if w}")
        tree = tree_of("def f(x):\n    return (y for y in x)")
        self.assertEqual(renamed(tree, 2, "y", "w"), with_tuples(tree_of("def f(x):\n    return (w for w in x)")))

    def test_numbers_of_scopes(self):
        source = "@d(lambda a=[p for p in q]: a)\ndef f(b=(lambda: 0), *, c=[s for s in t]):\n    x = 1\nclass C(lambda: 5):\n    def m(self):\n        x = 2"
        tree = tree_of(source)
        paths = [scope[2] for scope in scopes(tree)]
        for path, line in (("f", 3), ("C.m", 6)):
            found = renamed(tree, paths.index(path), "x", "w")
            due = source.split("\n")
            due[line - 1] = due[line - 1].replace("x", "w")
            self.assertEqual(found, with_tuples(tree_of("\n".join(due))))
        # Defaults come ahead of decorators.
        second, first = [number for number, path in enumerate(paths) if path == "<listcomp>"]
        self.assertEqual(renamed(tree, first, "p", "w"), with_tuples(tree_of(source.replace("[p for p in q]", "[w for w in q]"))))
        self.assertEqual(renamed(tree, second, "s", "w"), with_tuples(tree_of(source.replace("[s for s in t]", "[w for w in t]"))))

    def refused(self, error, attribute, value, tree, *arguments):
        with self.assertRaises(error) as caught:
            renamed(tree, *arguments)
        self.assertIs(getattr(caught.exception, attribute), value)

    def test_errors_in_their_order(self):
        tree = tree_of("y = 1\ndef f(p, *r, k, **m):\n    global g\n    x = c = g = 1\n    def h(i):\n        j = c\n        class D:\n            z = 1\n    class C:\n        q = x2\n    return x\n[e for e in y]")
        for value in (-1, 0, 4, 3, 100, True, False, None, "1", 1.0, [], ()):
            table = scopes(tree)
            if type(value) is int and 0 <= value < len(table) and table[value][0] not in ("program", "class"):
                continue
            self.refused(NoNumber, "value", value, tree, value, None, None)
        for name in ("p", "r", "k", "m", "g", "c", "y", "w", "", 5, None, True, [], ("x",), {}, "z", "x2"):
            self.refused(NoName, "name", name, tree, 1, name, "x")
        self.refused(NoName, "name", ".0", tree, [scope[0] for scope in scopes(tree)].index("list"), ".0", "w")
        for other in ("x", "p", "y", "f", "c", "h", "j", "i", "z", "D", "q", "x2", "g", "if", "", "1a", "a b", "__a", "a" * 21, 5, None, True, [], b"a", "\u00e9"):
            self.refused(NoName, "name", other, tree, 1, "x", other)
        # Names of scopes beside it are free, and so are attributes.
        self.assertEqual(renamed(tree, 1, "x", "e"), renamed(tree=tree, number=1, name="x", other="e"))

    def test_trees_and_programs_first(self):
        for thing in [None, [], [("Pass", 0)], 5]:
            with self.assertRaises(NoTree):
                renamed(thing, None, None, None)
        for source, word in (("nonlocal x", "outside"), ("break", "break"), ("return", "return"), ("def f():\n    continue", "continue")):
            with self.assertRaises(NoProgram) as caught:
                renamed(tree_of(source), None, None, None)
            self.assertEqual(caught.exception.why, word)

    def test_random_programs(self):
        pick, told, back = numbers(104), 0, 0
        while told < 150:
            tree = RunMaker(pick, 25).program() if pick.random() < 0.5 else Maker(pick, 50).program()
            try:
                table = scopes(tree)
                found = walk(tree, 400)
            except NoProgram:
                continue
            for number, (word, _, path, _, kinds, _) in enumerate(table):
                for name, kind in kinds.items():
                    if kind != "local" or word in ("program", "class") or pick.random() < 0.5:
                        continue
                    try:
                        other = renamed(tree, number, name, "fresh")
                    except NoName:
                        # A parameter.
                        continue
                    told += 1
                    self.assertEqual(check(other), None)
                    due = [(*scope[:4], {("fresh" if at == number and held == name else held): kind for held, kind in scope[4].items()}, scope[5])
                           for at, scope in enumerate(table)]
                    self.assertEqual([scope[4] for scope in scopes(other)], [scope[4] for scope in due])
                    if not any(scope[1] == name for scope in table):
                        self.assertEqual(walk(other, 400), found)
                        self.assertLessEqual({what for _, what in changed(tree, other)}, {"same", "names"})
                    try:
                        self.assertEqual(renamed(other, number, "fresh", name), with_tuples(tree))
                        back += 1
                    except NoName:
                        pass
        self.assertGreater(back, 10)

    def test_runs_tell_the_same(self):
        tree = tree_of("def f(a):\n    x = a\n    return [x2 for x2 in x]\ntell(f((1, 2)))")
        self.assertEqual(run_tree(self, renamed(tree, 1, "x", "w")), run_tree(self, tree))


class FunctionsThatAreNotTouchedTests(unittest.TestCase):
    def test_they_keep_their_codes(self):
        pick = numbers(105)
        one = "def a(x):\n    return x + 1\ndef b(y):\n    z = [y for i in y]\n    return z\nclass C:\n    def m(self):\n        return 5\n"
        for line in range(1, 9):
            rows = one.split("\n")
            if not rows[line - 1].startswith(("def", "class", "    def")):
                rows[line - 1] = rows[line - 1][:len(rows[line - 1]) - len(rows[line - 1].lstrip())] + f"tell({pick.randint(1, 9)})"
                found = dict(changed(tree_of(one), tree_of("\n".join(rows))))
                owner = {2: "a", 4: "b", 5: "b", 8: "C.m"}[line]
                self.assertEqual(found[owner], "rows")
                for path, word in found.items():
                    if path != owner and not path.startswith(owner + "."):
                        self.assertEqual(word, "same", (line, path))


if __name__ == "__main__":
    unittest.main()
