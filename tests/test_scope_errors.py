import unittest

from codewalk.errors import NoProgram, NoTree
from codewalk.scopes import scopes
from codewalk.trees import check
from tests.samples import assign, class_of, clause, constant, expr, function, name, named, slot

A, B, X = name("a"), name("b"), name("x")
ONE = constant(1)
NO_TAKEN = ([], [], None, [], [], None)
X_TAKEN = (["x"], [], None, [], [], None)
LAST = [("Pass", 900)]


def done(line):
    return [("Pass", line)]


# Each puts the statements that `made` gives for a line into a program, and tells that line.
IN_STATEMENTS = (
    lambda made: (made(1), 1),
    lambda made: ([("If", 1, A, made(2), [])], 2),
    lambda made: ([("If", 1, A, done(2), made(3))], 3),
    lambda made: ([("While", 1, A, done(2), made(3))], 3),
    lambda made: ([("For", 1, A, B, made(2), [])], 2),
    lambda made: ([("With", 1, [(A, None)], made(2))], 2),
    lambda made: ([("Try", 1, made(2), [], [], LAST)], 2),
    lambda made: ([("Try", 1, done(2), [(3, B, None, made(4))], [], [])], 4),
    lambda made: ([("Try", 1, done(2), [(3, None, None, done(4))], made(5), LAST)], 5),
    lambda made: ([("Try", 1, done(2), [], [], made(3))], 3),
)
IN_SCOPES = (
    lambda made: ([function("outer", made(2))], 2),
    lambda made: ([class_of("Outer", made(2))], 2),
    lambda made: ([function("outer", [class_of("Outer", [("If", 3, A, made(4), [])], 2)])], 4),
)


class Refusals(unittest.TestCase):
    """What the tests of errors have in common."""

    def refused(self, tree, line, why):
        check(tree)
        with self.assertRaises(NoProgram, msg=repr(tree)) as caught:
            scopes(tree)
        self.assertEqual((caught.exception.line, caught.exception.why), (line, why), repr(tree))

    def refused_everywhere(self, made, further, why, wraps=IN_STATEMENTS + IN_SCOPES):
        """The statements that are made for a line are refused, so many lines further, wherever they stand."""
        for wrap in wraps:
            tree, line = wrap(made)
            self.refused(tree, line + further, why)


class ErrorTests(Refusals):
    def test_again(self):
        for taken in (
            (["x", "a", "x"], [], None, [], [], None), (["x"], [], "x", [], [], None),
            (["x"], [], None, ["x"], [None], None), (["x"], [], None, [], [], "x"),
            ([], [], "x", ["x"], [None], None), ([], [], "x", [], [], "x"),
            ([], [], None, ["x", "x"], [None, None], None), ([], [], None, ["x"], [None], "x"),
        ):
            self.refused_everywhere(lambda n: [function("f", [("Pass", n + 1)], n, taken)], 0, "again")
            self.refused_everywhere(lambda n: [("Pass", n), ("Return", n + 1, ("Lambda", taken, A))], 1, "again")

    def test_parameter(self):
        for taken in (
            X_TAKEN, ([], [], "x", [], [], None), ([], [], None, ["x"], [A], None), ([], [], None, [], [], "x"),
        ):
            for word in ("Global", "Nonlocal"):
                self.refused_everywhere(
                    lambda n: [function("f", [("Pass", n + 1), (word, n + 2, ["y", "x"])], n, taken)], 2, "parameter")

    def test_late(self):
        for made in (
            lambda n: assign(X, ONE, n), lambda n: expr(X, n), lambda n: ("AugAssign", n, X, "+", ONE),
            lambda n: ("Delete", n, [X]),
            lambda n: function("x", done(n + 1), n), lambda n: class_of("x", done(n + 1), n),
            lambda n: expr(named("x"), n), lambda n: expr(("ListComp", A, [clause(A, X)]), n),
            lambda n: ("Try", n, done(n + 1), [(n + 2, A, "x", done(n + 3))], [], []),
            lambda n: ("With", n, [(A, X)], done(n + 1)), lambda n: ("For", n, X, A, done(n + 1), []),
            lambda n: function("f", done(n + 1), n, (["y"], [X], None, [], [], None)),
            lambda n: function("f", done(n + 1), n, NO_TAKEN, [X]), lambda n: class_of("C", done(n + 1), n, [X]),
        ):
            for word in ("Global", "Nonlocal"):
                self.refused_everywhere(lambda n: [made(n), (word, n + 5, ["y", "x"] if word == "Global" else ["x"])],
                                        5, "late")

    def test_late_for_a_name_that_a_named_expression_binds_further_around(self):
        value = ("ListComp", ("GeneratorExp", named("x"), [clause(A, B)]), [clause(B, A)])
        wraps = IN_STATEMENTS + IN_SCOPES[:1]
        self.refused_everywhere(lambda n: [expr(value, n), ("Global", n + 1, ["x"])], 1, "late", wraps)

    def test_not_late(self):
        for tree in (
            [function("f", [expr(X, 2)]), ("Global", 3, ["x"])],
            [expr(("ListComp", X, [clause(A, B)])), ("Global", 2, ["x"])],
            [expr(("Lambda", X_TAKEN, named("x"))), ("Global", 2, ["x"])],
            [expr(("Call", A, [], [("x", ("Attribute", B, "x"))])), ("Global", 2, ["x"])],
            [("Global", 1, ["x"]), ("Global", 2, ["x", "x"])],
        ):
            scopes(tree)

    def test_late_behind_a_declaration(self):
        self.refused_everywhere(
            lambda n: [("Global", n, ["x"]), assign(X, ONE, n + 1), ("Global", n + 2, ["x"])], 2, "late")

    def test_both(self):
        self.refused_everywhere(lambda n: [("Global", n, ["x"]), ("Nonlocal", n + 1, ["x"])], 1, "both")
        self.refused_everywhere(lambda n: [("Nonlocal", n, ["y", "x"]), ("Global", n + 1, ["x"])], 1, "both", IN_SCOPES)

    def test_late_ahead_of_both(self):
        self.refused_everywhere(lambda n: [("Global", n, ["x"]), expr(X, n + 1), ("Nonlocal", n + 2, ["x"])], 2, "late")

    def test_outside(self):
        self.refused_everywhere(lambda n: [("Nonlocal", n, ["x"])], 0, "outside", IN_STATEMENTS)
        self.refused_everywhere(lambda n: [("Global", n, ["y"]), ("Nonlocal", n + 1, ["x", "y"])], 1, "outside",
                                IN_STATEMENTS)

    def test_names_in_a_row_in_their_order(self):
        self.refused([("Global", 1, ["y"]), expr(X, 2), ("Nonlocal", 3, ["y", "x"])], 3, "both")
        self.refused([("Global", 1, ["y"]), expr(X, 2), ("Nonlocal", 3, ["x", "y"])], 3, "late")

    def test_inside(self):
        for value in (("Yield", None), ("Yield", A), ("YieldFrom", A)):
            for inner in (
                ("ListComp", value, [clause(A, B)]), ("GeneratorExp", value, [clause(A, B)]),
                ("DictComp", A, ("Tuple", [value]), [clause(A, B)]), ("ListComp", A, [clause(A, B, value)]),
                ("ListComp", A, [clause(A, B), clause(A, value)]), ("ListComp", A, [clause(slot(A, value), B)]),
                ("ListComp", ("ListComp", A, [clause(B, value)]), [clause(A, B)]),
                ("ListComp", ("Lambda", (["y"], [value], None, [], [], None), A), [clause(A, B)]),
            ):
                self.refused_everywhere(lambda n: [expr(inner, n)], 0, "inside")

    def test_not_inside(self):
        for value in (("Yield", A), ("YieldFrom", A)):
            for inner in (("ListComp", A, [clause(A, value)]),
                          ("ListComp", ("Lambda", NO_TAKEN, value), [clause(A, B)])):
                scopes([expr(inner)])

    def test_the_line_of_a_handler(self):
        value = ("ListComp", ("Yield", A), [clause(A, B)])
        self.refused([("Try", 1, done(2), [(3, A, None, done(4)), (5, value, None, done(6))], [], [])], 5, "inside")
        again = ("Lambda", (["x", "x"], [], None, [], [], None), A)
        self.refused([("Try", 1, done(2), [(3, again, None, done(4))], [], [])], 3, "again")

    def test_the_first_on_the_way(self):
        yielding = expr(("ListComp", ("Yield", A), [clause(A, B)]), 5)
        self.refused([yielding, ("Nonlocal", 6, ["x"])], 5, "inside")
        self.refused([function("f", [yielding]), ("Nonlocal", 6, ["x"])], 5, "inside")
        self.refused([("Nonlocal", 4, ["x"]), yielding], 4, "outside")
        self.refused([function("f", [yielding], 1, (["x", "x"], [], None, [], [], None))], 1, "again")
        taken = (["x", "x"], [yielding[2]], None, [], [], None)
        self.refused([function("f", done(2), 1, taken)], 1, "inside")
        self.refused([function("f", done(2), 1, (["x", "x"], [], None, [], [], None), [yielding[2]])], 1, "inside")

    def test_no_tree_ahead_of_all(self):
        tree = [("Nonlocal", 1, ["x"]), function("f", done(3), 2, (["x", "x"], [], None, [], [], None)), ("Pass", 3)]
        for taking in (check, scopes):
            with self.assertRaises(NoTree) as caught:
                taking(tree)
            self.assertEqual(caught.exception.place, (2,))


class UnboundTests(Refusals):
    def test_nothing_around_has_it(self):
        for wrap in IN_SCOPES:
            tree, line = wrap(lambda n: [("Pass", n), ("If", n + 1, A, [("Nonlocal", n + 2, ["x"])], [])])
            self.refused(tree, line + 2, "unbound")

    def test_the_program_or_a_class_has_it(self):
        inner = function("f", [("Nonlocal", 4, ["x"])], 3)
        self.refused([assign(X), inner], 4, "unbound")
        self.refused([class_of("C", [assign(X, ONE, 2), inner])], 4, "unbound")

    def test_a_global_one_around(self):
        inner = function("h", [("Nonlocal", 5, ["x"])], 4)
        self.refused([function("f", [function("g", [("Global", 3, ["x"]), inner], 2)], 1, X_TAKEN)], 5, "unbound")

    def test_it_is_only_used_around(self):
        self.refused([function("f", [expr(X, 2), function("g", [("Nonlocal", 4, ["x"])], 3)])], 4, "unbound")

    def test_it_is_bound(self):
        for made in (
            [assign(X, ONE, 2)], [("Delete", 2, [X])], [function("x", done(3), 2)], [expr(named("x"), 2)],
            [expr(("ListComp", named("x"), [clause(A, B)]), 2)],
        ):
            for inner in (function("g", [("Nonlocal", 9, ["x"])], 8), class_of("g", [("Nonlocal", 9, ["x"])], 8)):
                self.assertEqual(scopes([function("f", [*made, inner])])[-1][4], {"x": "free"})
                behind = [("Pass", 2), inner, assign(X, ONE, 10)]
                self.assertEqual(scopes([function("f", behind)])[-1][4], {"x": "free"})

    def test_scope_by_scope(self):
        first = function("g", [("Nonlocal", 9, ["x"])], 8)
        self.refused([function("f", [first, ("Nonlocal", 10, ["y"])])], 10, "unbound")
        self.refused([function("f", [first]), function("h", [("Nonlocal", 12, ["y"])], 11)], 9, "unbound")

    def test_the_first_nonlocal_of_a_scope(self):
        inner = function("g", [("Nonlocal", 9, ["x"]), ("Nonlocal", 10, ["x", "y"]), ("Nonlocal", 11, ["y", "z"])], 8)
        self.refused([function("f", [inner], 1, X_TAKEN)], 10, "unbound")

    def test_only_if_there_is_no_other(self):
        tree = [function("f", [("Nonlocal", 2, ["x"])]), ("Nonlocal", 3, ["x"])]
        self.refused(tree, 3, "outside")


class NamedTests(Refusals):
    def test_iterable(self):
        bad = named("y")
        for value in (
            ("ListComp", A, [clause(A, bad)]), ("GeneratorExp", A, [clause(A, B), clause(B, ("Tuple", [A, bad]))]),
            ("DictComp", A, A, [clause(A, ("Lambda", NO_TAKEN, bad))]),
            ("ListComp", A, [clause(A, ("Lambda", (["z"], [bad], None, [], [], None), A))]),
            ("ListComp", A, [clause(A, ("ListComp", bad, [clause(A, B)]))]),
            ("ListComp", A, [clause(A, ("ListComp", A, [clause(A, B, bad)]))]),
            ("ListComp", ("ListComp", A, [clause(A, bad)]), [clause(A, B)]),
            ("ListComp", A, [clause(A, ("Lambda", NO_TAKEN, ("ListComp", ("Lambda", NO_TAKEN, bad), [clause(A, B)])))]),
        ):
            self.refused_everywhere(lambda n: [expr(value, n)], 0, "iterable")

    def test_rebound(self):
        bad = named("x")
        for value in (
            ("ListComp", bad, [clause(X, B)]), ("GeneratorExp", A, [clause(X, B, bad)]),
            ("DictComp", A, bad, [clause(A, B), clause(("Tuple", [A, ("Starred", ("List", [X]))]), B)]),
            ("DictComp", bad, A, [clause(X, B)]), ("ListComp", A, [clause(A, B, bad), clause(X, B)]),
            ("ListComp", A, [clause(slot(A, bad), B), clause(X, B)]),
            ("ListComp", ("GeneratorExp", bad, [clause(A, B)]), [clause(X, B)]),
            ("ListComp", A, [clause(A, B, ("ListComp", bad, [clause(A, B)])), clause(X, B)]),
            ("ListComp", ("Lambda", (["y"], [bad], None, [], [], None), A), [clause(X, B)]),
        ):
            self.refused_everywhere(lambda n: [expr(value, n)], 0, "rebound")

    def test_not_rebound(self):
        good = named("x")
        for value in (
            ("ListComp", ("Lambda", NO_TAKEN, good), [clause(X, B)]),
            ("ListComp", ("Lambda", NO_TAKEN, ("ListComp", good, [clause(A, B)])), [clause(X, B)]),
            ("ListComp", ("Tuple", [good, ("ListComp", X, [clause(X, B)])]), [clause(A, B)]),
            ("ListComp", good, [clause(slot(X, A), B)]), ("ListComp", good, [clause(("Attribute", X, "x"), B)]),
        ):
            for wrap in IN_STATEMENTS + IN_SCOPES[:1]:
                scopes(wrap(lambda n: [expr(value, n)])[0])

    def test_body(self):
        for value in (
            ("ListComp", named("x"), [clause(A, B)]), ("GeneratorExp", A, [clause(A, B, named("x"))]),
            ("DictComp", A, ("ListComp", named("x"), [clause(A, B)]), [clause(A, B)]),
        ):
            self.refused_everywhere(lambda n: [expr(value, n)], 0, "body", IN_SCOPES[1:])
            scopes([class_of("C", [expr(("Lambda", NO_TAKEN, value), 2), function("f", [expr(value, 4)], 3)])])
        scopes([class_of("C", [expr(named("x"), 2), expr(("Lambda", NO_TAKEN, named("x")), 3)])])

    def test_the_first_of_the_list_for_one_name(self):
        rebound = ("ListComp", named("x"), [clause(X, B)])
        self.refused_everywhere(lambda n: [expr(rebound, n)], 0, "rebound", IN_SCOPES[1:])
        both = ("ListComp", ("ListComp", A, [clause(A, named("x"))]), [clause(X, B)])
        self.refused_everywhere(lambda n: [expr(both, n)], 0, "iterable")

    def test_the_first_on_the_way_of_several_names(self):
        two = ("ListComp", ("Tuple", [named("x", named("a"))]), [clause(A, B, named("a"))])
        self.refused_everywhere(lambda n: [expr(two, n)], 0, "rebound")
        inner = ("ListComp", ("Tuple", [("Yield", A), named("x")]), [clause(X, B)])
        self.refused_everywhere(lambda n: [expr(inner, n)], 0, "inside")
        other = ("ListComp", ("Tuple", [named("x"), ("Yield", A)]), [clause(X, B)])
        self.refused_everywhere(lambda n: [expr(other, n)], 0, "rebound")


class NamedKindTests(unittest.TestCase):
    """The kinds of the name x, which a NamedExpr binds, in all scopes of a program."""

    WORDS = ("ListComp", "GeneratorExp", "DictComp")

    def nested(self, words, value=named("x")):
        """Comprehensions in one another, each of them the value of the one around, and in the last one the value."""
        for word in words:
            rows = (A, value) if word == "DictComp" else (value,)
            value = (word, *rows, [clause(A, B)])
        return value

    def check_kinds(self, made, around, depth_kind):
        for many in range(1, 5):
            for word in self.WORDS:
                words = [word] + [self.WORDS[at % 3] for at in range(many - 1)]
                found = [scope[4].get("x") for scope in scopes(made(self.nested(words)))]
                self.assertEqual(found, [*around, *[depth_kind] * many])

    def test_in_the_program(self):
        self.check_kinds(lambda value: [expr(value)], ["local"], "global")
        self.check_kinds(lambda value: [("Global", 1, ["x"]), expr(value, 2)], ["global"], "global")

    def test_in_a_function(self):
        self.check_kinds(lambda value: [function("f", [expr(value, 2)])], [None, "cell"], "free")
        self.check_kinds(lambda value: [function("f", [expr(value, 2)], 1, X_TAKEN)], [None, "cell"], "free")

    def test_in_a_lambda(self):
        self.check_kinds(lambda value: [expr(("Lambda", NO_TAKEN, value))], [None, "cell"], "free")
        self.check_kinds(
            lambda value: [class_of("C", [expr(("Lambda", X_TAKEN, value), 2)])], [None, None, "cell"], "free")

    def test_where_it_is_declared_global(self):
        self.check_kinds(
            lambda value: [function("f", [("Global", 2, ["x"]), expr(value, 3)])], [None, "global"], "global")
        self.check_kinds(
            lambda value: [function("f", [function("g", [("Global", 3, ["x"]), expr(value, 4)], 2)], 1, X_TAKEN)],
            [None, "local", "global"], "global")

    def test_where_it_is_declared_nonlocal(self):
        self.check_kinds(
            lambda value: [function("f", [function("g", [("Nonlocal", 3, ["x"]), expr(value, 4)], 2)], 1, X_TAKEN)],
            [None, "cell", "free"], "free")

    def test_a_lambda_between_has_it_for_itself(self):
        value = ("ListComp", ("Lambda", NO_TAKEN, self.nested(["ListComp"])), [clause(A, B)])
        for tree, due in (([expr(value)], [None]), ([function("f", [expr(value, 2)])], [None, None])):
            self.assertEqual([scope[4].get("x") for scope in scopes(tree)], [*due, None, "cell", "free"])

    def test_directly_in_a_scope(self):
        self.assertEqual(scopes([expr(named("x"))])[0][4], {"x": "local"})
        self.assertEqual(scopes([class_of("C", [expr(named("x"), 2)])])[1][4], {"x": "local"})
        self.assertEqual(scopes([expr(("Lambda", NO_TAKEN, named("x")))])[1][4], {"x": "local"})

    def test_free_names(self):
        found = scopes([function("f", [expr(self.nested(["ListComp", "DictComp"]), 2)])])
        self.assertEqual([scope[5] for scope in found], [(), (), ("x",), ("x",)])
        found = scopes([expr(self.nested(["ListComp", "DictComp"]))])
        self.assertEqual([scope[5] for scope in found], [(), (), ()])

    def test_a_use_inside_of_the_comprehension(self):
        value = ("ListComp", ("Tuple", [named("x"), ("Lambda", NO_TAKEN, X)]), [clause(A, B)])
        self.assertEqual([scope[4].get("x") for scope in scopes([expr(value)])], ["local", "global", "implicit"])
        found = scopes([function("f", [expr(value, 2)])])
        self.assertEqual([scope[4].get("x") for scope in found], [None, "cell", "free", "free"])


if __name__ == "__main__":
    unittest.main()
