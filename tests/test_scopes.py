import copy
import unittest

from codewalk.scopes import scopes
from tests.samples import (
    assign, class_of, clause, constant, expr, function, name, named, nested, numbers, part, slot, starred,
    with_tuples,
)

A, B, X = name("a"), name("b"), name("x")
EMPTY = ([], [], None, [], [], None)


def lambda_of(value=X, taken=EMPTY):
    return ("Lambda", taken, value)


def mark(number):
    """An expression with a scope that can be told from others: a Lambda with a parameter of its own."""
    return lambda_of(A, (["m" + str(number)], [], None, [], [], None))


def marks(tree):
    """The numbers of the marks in the order in which their scopes were opened."""
    return [int(sorted(scope[4])[1][1:]) for scope in scopes(tree) if scope[0] == "lambda"]


def kinds(tree):
    return [scope[4] for scope in scopes(tree)]


class OrderTests(unittest.TestCase):
    def test_the_example(self):
        tree = [("Function", 1, "f", ((), (), None, (), (), None), [("Return", 2, X)], [])]
        self.assertEqual(scopes(tree), [
            ("program", "<module>", "<module>", None, {"f": "local"}, ()),
            ("function", "f", "f", 0, {"x": "implicit"}, ()),
        ])
        self.assertEqual(scopes(tree=tree), scopes(tree))

    def test_words_names_paths_and_parents(self):
        tree = [
            class_of("C", [
                function("m", [
                    expr(("ListComp", lambda_of(), [clause(A, B)]), 3),
                    function("inner", [class_of("D", [function("n", [("Pass", 7)], 6)], 5)], 4),
                ], 2),
                expr(("GeneratorExp", A, [clause(A, B)]), 8),
            ]),
            expr(("DictComp", A, lambda_of(), [clause(A, B)]), 9),
            expr(lambda_of(lambda_of()), 10),
        ]
        self.assertEqual([scope[:4] for scope in scopes(tree)], [
            ("program", "<module>", "<module>", None),
            ("class", "C", "C", 0),
            ("function", "m", "C.m", 1),
            ("list", "<listcomp>", "C.m.<locals>.<listcomp>", 2),
            ("lambda", "<lambda>", "C.m.<locals>.<listcomp>.<locals>.<lambda>", 3),
            ("function", "inner", "C.m.<locals>.inner", 2),
            ("class", "D", "C.m.<locals>.inner.<locals>.D", 5),
            ("function", "n", "C.m.<locals>.inner.<locals>.D.n", 6),
            ("generator", "<genexpr>", "C.<genexpr>", 1),
            ("dict", "<dictcomp>", "<dictcomp>", 0),
            ("lambda", "<lambda>", "<dictcomp>.<locals>.<lambda>", 9),
            ("lambda", "<lambda>", "<lambda>", 0),
            ("lambda", "<lambda>", "<lambda>.<locals>.<lambda>", 11),
        ])

    def test_paths_of_names_that_are_declared_global(self):
        tree = [function("f", [
            ("Global", 2, ["g", "C"]),
            function("g", [function("h", [("Pass", 5)], 4)], 3),
            class_of("C", [
                ("Global", 7, ["m"]), function("m", [("Pass", 9)], 8), function("C", [("Pass", 11)], 10),
            ], 6),
            function("k", [class_of("C", [("Pass", 14)], 13)], 12),
        ])]
        self.assertEqual([scope[2] for scope in scopes(tree)], [
            "<module>", "f", "g", "g.<locals>.h", "C", "m", "C.C", "f.<locals>.k", "f.<locals>.k.<locals>.C",
        ])

    def test_a_function_has_defaults_decorators_and_then_its_own(self):
        taken = (["p", "q"], [mark(1), mark(2)], None, ["r", "s"], [None, mark(3)], None)
        tree = [function("f", [expr(mark(6), 2)], 1, taken, [mark(4), mark(5)])]
        self.assertEqual(marks(tree), [1, 2, 3, 4, 5, 6])
        self.assertEqual([scope[3] for scope in scopes(tree)], [None, 0, 0, 0, 0, 0, 0, 6])

    def test_a_lambda_has_defaults_and_then_its_own(self):
        inner = lambda_of(mark(3), (["p"], [mark(1)], None, ["r"], [mark(2)], None))
        found = scopes([expr(inner)])
        self.assertEqual([scope[3] for scope in found], [None, 0, 0, 0, 3])
        self.assertEqual([sorted(scope[4]) for scope in found[1:]], [["a", "m1"], ["a", "m2"], ["p", "r"], ["a", "m3"]])

    def test_a_class_has_decorators_bases_and_then_its_own(self):
        tree = [class_of("C", [expr(mark(5), 2)], 1, [mark(3), mark(4)], [mark(1), mark(2)])]
        self.assertEqual(marks(tree), [1, 2, 3, 4, 5])
        self.assertEqual([scope[3] for scope in scopes(tree)], [None, 0, 0, 0, 0, 0, 5])

    def test_a_comprehension_has_the_first_value_and_then_its_own(self):
        clauses = [clause(slot(A, mark(2)), mark(1), mark(3), mark(4)), clause(slot(A, mark(5)), mark(6), mark(7))]
        for word in ("ListComp", "GeneratorExp"):
            tree = [expr((word, mark(8), clauses))]
            self.assertEqual(marks(tree), [1, 2, 3, 4, 5, 6, 7, 8])
            self.assertEqual([scope[3] for scope in scopes(tree)], [None, 0, 0, 2, 2, 2, 2, 2, 2, 2])
        self.assertEqual(marks([expr(("DictComp", mark(8), mark(9), clauses))]), [1, 2, 3, 4, 5, 6, 7, 8, 9])

    def test_all_else_in_the_order_of_the_forms(self):
        one, two, three, four = mark(1), mark(2), mark(3), mark(4)
        done = [("Pass", 50)]
        for value in (
            ("Dict", [one, two], [three, four]), ("IfExp", one, two, three), ("Compare", one, ["<", ">"], [two, three]),
            ("Call", one, [two, starred(three)], [("k", four)]),
            slot(one, part(two, three)), ("BoolOp", "or", [one, two]),
            ("Tuple", [one, starred(two), ("List", [three])]), ("BinOp", one, "+", ("UnaryOp", "-", two)),
            named("n", ("Yield", one)), ("YieldFrom", ("Attribute", one, "x")),
        ):
            found = marks([expr(value)])
            self.assertEqual(found, list(range(1, len(found) + 1)), value)
        for statement in (
            ("Assign", 1, [slot(A, one), slot(two, B)], three), ("AugAssign", 1, slot(A, one), "+", two),
            ("Delete", 1, [slot(A, one), slot(two, B)]), ("Return", 1, one), ("Raise", 1, one, two),
            ("Assert", 1, one, two), ("If", 1, one, [expr(two, 2)], [expr(three, 3)]),
            ("While", 1, one, [expr(two, 2)], [expr(three, 3)]),
            ("For", 1, slot(A, one), two, [expr(three, 3)], [expr(four, 4)]),
            ("With", 1, [(one, slot(A, two)), (three, None)], [expr(four, 4)]),
            ("Try", 1, [expr(one, 2)], [(3, two, "e", [expr(three, 4)])], [expr(four, 5)], done),
            ("Try", 1, [expr(one, 2)], [(3, None, None, [expr(two, 4)])], [expr(three, 5)], [expr(four, 6)]),
        ):
            found = marks([statement])
            self.assertEqual(found, list(range(1, len(found) + 1)), statement)


class BindingTests(unittest.TestCase):
    def test_what_binds_and_what_uses(self):
        one = constant(1)
        for made, bound, used in (
            (lambda n: assign(("Tuple", [A, starred(B), ("List", [X])]), name("v"), n), "abx", "v"),
            (lambda n: assign(slot(A, B), X, n), "", "abx"),
            (lambda n: assign(("Attribute", A, "y"), X, n), "", "ax"),
            (lambda n: ("AugAssign", n, A, "+", B), "a", "b"),
            (lambda n: ("AugAssign", n, slot(A, B), "+", X), "", "abx"),
            (lambda n: ("Delete", n, [A, slot(B, X)]), "a", "bx"),
            (lambda n: ("For", n, A, B, [("Pass", n + 1)], []), "a", "b"),
            (lambda n: ("With", n, [(A, B), (X, None)], [("Pass", n + 1)]), "b", "ax"),
            (lambda n: function("a", [("Pass", n + 1)], n), "a", ""),
            (lambda n: class_of("a", [("Pass", n + 1)], n, [B], [X]), "a", "bx"),
            (lambda n: ("Try", n, [("Pass", n + 1)], [(n + 2, A, "e", [("Pass", n + 3)])], [], []), "e", "a"),
            (lambda n: expr(named("a", B), n), "a", "b"),
            (lambda n: expr(("Call", A, [starred(B)], [("k", X), (None, name("y"))]), n), "", "abxy"),
            (lambda n: expr(("ListComp", one, [clause(A, B)]), n), "", "b"),
        ):
            due = {**{word: "implicit" for word in used}, **{word: "local" for word in bound}}
            self.assertEqual(kinds([made(1)])[0], due)
            self.assertEqual(kinds([function("f", [made(2)])])[1], due)
            self.assertEqual(kinds([class_of("C", [made(2)])])[1], due)

    def test_parameters(self):
        full = (["p"], [A], "q", ["r"], [B], "s")
        due = {word: "local" for word in "pqrs"}
        self.assertEqual(kinds([function("f", [("Pass", 2)], 1, full)]), [{"f": "local", "a": "implicit",
                                                                           "b": "implicit"}, due])
        self.assertEqual(kinds([expr(lambda_of(name("p"), full))])[1], due)

    def test_a_comprehension_has_one_parameter(self):
        self.assertEqual(kinds([expr(("ListComp", X, [clause(A, B, A), clause(X, A)]))]),
                         [{"b": "implicit"}, {".0": "local", "a": "local", "x": "local"}])

    def test_an_augmented_name_is_bound_and_used(self):
        tree = [function("f", [assign(X, constant(1), 2), function("g", [("AugAssign", 4, X, "+", A)], 3)])]
        self.assertEqual(kinds(tree)[1:], [{"x": "local", "g": "local"}, {"x": "local", "a": "implicit"}])

    def test_an_argument_stays_and_results_are_new(self):
        tree = [("Function", 1, "f", (["a"], [], None, [], [], None), [expr(lambda_of(A), 2)], [])]
        before = copy.deepcopy(tree)
        first, second = scopes(tree), scopes(with_tuples(tree))
        self.assertEqual(tree, before)
        self.assertEqual(first, second)
        self.assertIs(type(first), list)
        for one, other in zip(first, second):
            self.assertIs(type(one), tuple)
            self.assertIs(type(one[5]), tuple)
            self.assertIsNot(one[4], other[4])
            one[4].clear()
        first.clear()
        self.assertEqual(scopes(tree), second)

    def test_deep_trees(self):
        for depth in (20, 40):
            self.assertEqual(kinds(nested(depth)), [{"a": "implicit"}])

    def test_long_trees(self):
        tree = [function("f", [("Pass", line + 1)], line) for line in range(1, 800, 2)]
        self.assertEqual(len(scopes(tree)), 401)

    def test_keywords_with_the_names_of_words(self):
        tree = [expr(("Call", A, [], [("Lambda", B), ("Name", X), ("Yield", X), ("ListComp", X)]))]
        self.assertEqual(kinds(tree), [{"a": "implicit", "b": "implicit", "x": "implicit"}])


class KindTests(unittest.TestCase):
    def found(self, tree):
        return [(scope[4], scope[5]) for scope in scopes(tree)]

    def test_a_cell_and_a_free_name(self):
        self.assertEqual(self.found([function("f", [assign(X, A, 2), expr(lambda_of(X), 3)])])[1:], [
            ({"x": "cell", "a": "implicit"}, ()), ({"x": "free"}, ("x",))])

    def test_a_name_of_the_program_is_not_free(self):
        tree = [assign(X), expr(lambda_of(X), 2)]
        self.assertEqual(self.found(tree), [({"x": "local"}, ()), ({"x": "implicit"}, ())])

    def test_a_name_of_a_class_is_not_free(self):
        tree = [class_of("C", [assign(X, A, 2), expr(lambda_of(X), 3)])]
        self.assertEqual(self.found(tree)[1:], [({"x": "local", "a": "implicit"}, ()), ({"x": "implicit"}, ())])

    def test_a_name_passes_through_functions_and_comprehensions(self):
        inner = ("ListComp", lambda_of(X), [clause(A, B)])
        tree = [function("f", [function("g", [expr(inner, 3)], 2)], 1, (["x"], [], None, [], [], None))]
        self.assertEqual(self.found(tree)[1:], [
            ({"x": "cell", "g": "local"}, ()), ({"x": "free", "b": "implicit"}, ("x",)),
            ({".0": "local", "a": "local", "x": "free"}, ("x",)), ({"x": "free"}, ("x",))])

    def test_what_a_class_between_keeps(self):
        for body, kind in (
            ([("Pass", 3)], "free"), ([expr(X, 3)], "free"), ([assign(X, constant(1), 3)], "local"),
            ([("Global", 3, ["x"])], "global"), ([("Nonlocal", 3, ["x"])], "free"),
        ):
            inner = class_of("C", [*body, expr(lambda_of(X), 4)], 2)
            tree = [function("f", [inner], 1, (["x"], [], None, [], [], None))]
            self.assertEqual(self.found(tree)[1:], [
                ({"x": "cell", "C": "local"}, ()), ({"x": kind}, ("x",)), ({"x": "free"}, ("x",))], kind)

    def test_a_global_function_scope_between_bars_the_way(self):
        inner = function("h", [expr(X, 5)], 4)
        tree = [function("f", [function("g", [("Global", 3, ["x"]), inner], 2)], 1, (["x"], [], None, [], [], None))]
        self.assertEqual(self.found(tree)[1:], [
            ({"x": "local", "g": "local"}, ()), ({"x": "global", "h": "local"}, ()), ({"x": "implicit"}, ())])

    def test_the_nearest_function_scope_counts(self):
        inner = [assign(X, constant(1), 3), expr(lambda_of(X), 4)]
        tree = [function("f", [function("g", inner, 2)], 1, (["x"], [], None, [], [], None))]
        self.assertEqual([scope[4]["x"] for scope in scopes(tree)[1:]], ["local", "cell", "free"])

    def test_free_names_are_sorted(self):
        words = ["b", "B", "_", "a1", "a"]
        uses = [expr(name(word), 10 + at) for at, word in enumerate(words)]
        tree = [function("f", [function("g", uses, 2)], 1, (words, [], None, [], [], None))]
        self.assertEqual(scopes(tree)[2][5], ("B", "_", "a", "a1", "b"))

    def test_global_in_the_program(self):
        self.assertEqual(kinds([("Global", 1, ["x"]), assign(X, A, 2)]), [{"x": "global", "a": "implicit"}])

    def test_a_declared_name_alone(self):
        tree = [function("f", [function("g", [("Nonlocal", 3, ["x"])], 2), ("Global", 4, ["y"])], 1,
                         (["x"], [], None, [], [], None))]
        self.assertEqual(self.found(tree)[1:], [
            ({"x": "cell", "y": "global", "g": "local"}, ()), ({"x": "free"}, ("x",))])


class Chain:
    """Scopes in one another, and what each of them does with the name x, and what must come of it."""

    def __init__(self, links):
        self.links = links

    def program(self):
        return self.body(0, 1)

    def body(self, at, line):
        """The statements of the scope at this place of the chain."""
        word, does = self.links[at]
        rows = {
            "bound": [assign(X, constant(1), line)], "used": [expr(X, line)], "global": [("Global", line, ["x"])],
            "nonlocal": [("Nonlocal", line, ["x"])],
        }.get(does, [("Pass", line)])
        if at + 1 == len(self.links):
            return rows
        inner, does_inner = self.links[at + 1]
        called = "x" if does == "named" else "f"
        if inner == "class":
            return [*rows, class_of(called, self.body(at + 1, line + 2), line + 1)]
        if inner == "function":
            taken = (["x"] if does_inner == "parameter" else [], [], None, [], [], None)
            return [*rows, function(called, self.body(at + 1, line + 2), line + 1, taken)]
        return [*rows, expr(self.value(at + 1), line + 1)]

    def value(self, at):
        """The expression with the scope at this place of the chain."""
        word, does = self.links[at]
        inner = self.value(at + 1) if at + 1 < len(self.links) else constant(1)
        used = ("Tuple", [X, inner]) if does == "used" else inner
        if word == "lambda":
            used = ("Tuple", [named("x"), inner]) if does == "bound" else used
            return lambda_of(used, (["x"] if does == "parameter" else [], [], None, [], [], None))
        return ("ListComp", used, [clause(X if does == "bound" else slot(A, B), B)])

    def base(self, at):
        """The kind of the name in a scope by what the scope itself does."""
        does = self.links[at][1]
        if does in ("parameter", "bound", "named"):
            return "local"
        return {"global": "global", "nonlocal": "free", "none": None}.get(does, "used")

    def is_function(self, at):
        return self.links[at][0] not in ("program", "class")

    def owner(self, at):
        """The scope whose name x is if the scope at this place only uses it."""
        for up in range(at - 1, -1, -1):
            if self.is_function(up) and self.base(up) in ("local", "global"):
                return up if self.base(up) == "local" else None
        return None

    def is_unbound(self):
        return any(self.base(at) == "free" and self.owner(at) is None for at in range(len(self.links)))

    def kinds(self):
        """For each scope the kind of x, or None, and whether it is a free name of it."""
        due = []
        for at in range(len(self.links)):
            wanted = [low for low in range(at, len(self.links)) if self.base(low) in ("free", "used")]
            passing = [low for low in wanted if self.owner(low) is not None and self.owner(low) < at]
            owned = [low for low in wanted if low > at and self.owner(low) == at]
            kind = self.base(at)
            if kind == "local":
                kind = "cell" if owned else "local"
            elif kind == "used":
                kind = "implicit" if self.owner(at) is None else "free"
            elif kind is None:
                kind = "free" if passing else None
            due.append((kind, bool(passing)))
        return due


class ChainTests(unittest.TestCase):
    DOES = {
        "class": ["bound", "used", "global", "nonlocal", "named", "none"],
        "function": ["parameter", "bound", "used", "global", "nonlocal", "named", "none"],
        "lambda": ["parameter", "bound", "used", "none"],
        "list": ["bound", "used", "none"],
    }

    def links(self, pick, length):
        """A random chain: statements may have expressions inside of them, but not the other way."""
        statements = pick.randint(0, length - 1)
        found = [("program", pick.choice(["bound", "used", "global", "named", "none"]))]
        for at in range(1, length):
            word = pick.choice(["function", "function", "class"] if at <= statements else ["lambda", "list"])
            found.append((word, pick.choice(self.DOES[word])))
        # The name of the next scope, where the next one has none, is nothing.
        for at, (word, does) in enumerate(found):
            if does == "named" and not (at + 1 < length and found[at + 1][0] in ("function", "class")):
                found[at] = (word, "none")
        return found

    def test_chains_of_up_to_seventeen_scopes(self):
        pick, seen = numbers(5), 0
        while seen < 1500:
            chain = Chain(self.links(pick, pick.randint(2, 17)))
            if not chain.is_unbound():
                seen += 1
                found = scopes(chain.program())
                self.assertEqual([(scope[4].get("x"), "x" in scope[5]) for scope in found], chain.kinds(), chain.links)
                self.assertEqual([scope[3] for scope in found], [None, *range(len(found) - 1)])


if __name__ == "__main__":
    unittest.main()
