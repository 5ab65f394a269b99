"""How `check` goes through a tree: deep ones, long ones, two faults at once, and how many calls it makes."""

import sys
import unittest

from codewalk.errors import NoTree
from codewalk.scopes import scopes
from codewalk.trees import check
from tests.samples import NOTHING, at_place, name, nested, places, replaced, showcase, with_tuples

A = name("a")
BAD = ("Name", "1")


def many_small_nodes(times):
    """The program of so many functions whose nodes are all small."""
    tree = []
    for k in range(times):
        tree.append(("Function", 10 * k + 1, "f", (("a", "b"), (("Constant", 1),), None, (), (), None), [
            ("Assign", 10 * k + 2, [("Name", "x")], ("BinOp", ("Name", "a"), "+", ("Name", "b"))),
            ("If", 10 * k + 3, ("Compare", ("Name", "x"), ["<"], [("Constant", 3)]), [
                ("Return", 10 * k + 4, ("Call", ("Name", "g"), [("Name", "x"), ("Constant", 2)], [])),
            ], [("Expr", 10 * k + 5, ("Attribute", ("Name", "x"), "y"))]),
            ("For", 10 * k + 6, ("Tuple", [("Name", "i"), ("Name", "j")]), ("Name", "x"), [("Pass", 10 * k + 7)], []),
        ], []))
    return tree


def calls_of(action, tree):
    """How many calls, of functions of Python and of builtins, are made while the action goes through the tree."""
    found = []
    sys.setprofile(lambda frame, event, _: found.append(event) if event in ("call", "c_call") else None)
    try:
        action(tree)
    except NoTree:
        pass
    finally:
        sys.setprofile(None)
    return len(found)


class PlaceTests(unittest.TestCase):
    def wrong(self, tree, place):
        with self.assertRaises(NoTree, msg=repr(tree)[:300]) as caught:
            check(tree)
        self.assertEqual(caught.exception.place, place, repr(tree)[:300])


class DeepTests(PlaceTests):
    def test_a_fault_at_each_level(self):
        for tree in (nested(20), with_tuples(nested(20))):
            for place in places(tree):
                if place and at_place(tree, place) == A:
                    self.wrong(replaced(tree, place, BAD), place)

    def test_two_faults_in_each_order(self):
        tree = nested(20)
        found = [place for place in places(tree) if place and isinstance(at_place(tree, place), tuple)]
        for first, second in zip(found, found[1:] + found[:1]):
            # The inner one is put in first, since it is gone when the outer one is.
            wrong = replaced(replaced(tree, max(first, second), BAD), min(first, second), ("Nothing", A))
            self.wrong(wrong, min(first, second))

    def test_expressions_of_all_sorts_inside_of_one_another(self):
        value, place = BAD, ()
        for around, step in (
            (lambda x: ("Tuple", [A, x]), (1, 1)), (lambda x: ("BinOp", x, "+", A), (1,)),
            (lambda x: ("Call", A, [A, x], [("k", A)]), (2, 1)), (lambda x: ("Call", A, [], [("k", x)]), (3, 0, 1)),
            (lambda x: ("Subscript", A, ("Slice", None, x)), (2, 2)), (lambda x: ("Attribute", x, "y"), (1,)),
            (lambda x: ("Dict", [A, A], [A, x]), (2, 1)), (lambda x: ("Lambda", NOTHING, x), (2,)),
            (lambda x: ("Lambda", (["p"], [], None, ["q"], [x], None), A), (1, 4, 0)),
            (lambda x: ("ListComp", A, [(A, A, [A, x])]), (2, 0, 2, 1)), (lambda x: ("Starred", x), (1,)),
            (lambda x: ("List", [x]), (1, 0)), (lambda x: ("IfExp", A, x, A), (2,)),
            (lambda x: ("DictComp", A, A, [(("Subscript", A, x), A, [])]), (3, 0, 0, 2)),
            (lambda x: ("Compare", A, ["<", "<"], [A, x]), (3, 1)), (lambda x: ("BoolOp", "and", [A, x]), (2, 1)),
        ):
            value, place = around(value), step + place
            self.wrong([("Assign", 1, [A], ("Tuple", [value]))], (0, 3, 1, 0, *place))

    def test_deeper_than_any_program(self):
        self.assertIsNone(check(nested(300)))
        tree = [("Pass", 299)]
        for line in range(299, 0, -1):
            tree = [("If", line, A, tree, [])]
        self.wrong(tree, (0,) + (3, 0) * 299)


    def test_a_fault_at_each_depth(self):
        value, place, stack = BAD, (), []
        for depth in range(130):
            around, step = DEEP_EXPRESSIONS[depth % len(DEEP_EXPRESSIONS)]
            value, place = around(value), step + place
            self.wrong([("Expr", 1, value)], (0, 2, *place))
            # What is wrong behind it is not told, what is wrong ahead of it is.
            self.wrong([("Assign", 1, [A], ("Tuple", [value, BAD]))], (0, 3, 1, 0, *place))
            self.wrong([("Assign", 1, [A], ("Tuple", [BAD, value]))], (0, 3, 1, 0))
        right = A
        for depth in range(130):
            around, step = DEEP_EXPRESSIONS[depth % len(DEEP_EXPRESSIONS)]
            right = around(right)
            self.assertIsNone(check([("Expr", 1, right)]))
            self.wrong([("Expr", 1, ("List", [right, right, BAD]))], (0, 2, 1, 2))
            self.wrong([("Expr", 1, ("List", [right, value, right]))], (0, 2, 1, 1, *place))
            self.wrong([("Expr", 1, right), ("Pass", 1)], (1,))

    def test_lines_behind_deep_bodies(self):
        for depth in (10, 38, 39, 40, 41, 42, 80, 81, 82, 170):
            for more in (0, 1):
                tree = [("Pass", depth + 1)]
                for line in range(depth, 0, -1):
                    tree = [("If", line, A, tree, [])]
                self.assertIsNone(check(tree + [("Pass", depth + 2)]))
                self.wrong(tree + [("Pass", depth + 1)], (1,))
                # Within the body, behind what is deeper there.
                inner, line = [("Pass", 3 * depth)], 3 * depth + more
                for at in range(depth):
                    inner = [("While", 3 * depth - at - 1, A, inner, [("Pass", line + at)])]
                if more:
                    self.assertIsNone(check(inner))
                else:
                    self.wrong(inner, (0,) + (3, 0) * (depth - 1) + (4, 0))

    def test_deep_targets_with_two_stars(self):
        for depth in (1, 38, 39, 40, 41, 80, 120):
            target = A
            for _ in range(depth):
                target = ("Tuple", [A, target])
            self.assertIsNone(check([("Assign", 1, [target], A)]))
            stars = ("List", [("Starred", target), A])
            self.assertIsNone(check([("Assign", 1, [stars], A)]))
            for pieces in ([target, ("Starred", A), ("Starred", A)], [("Starred", target), ("Starred", target)], [("Starred", A), target, ("Starred", BAD)]):
                self.wrong([("Assign", 1, [A, ("Tuple", pieces)], A)], (0, 2, 1))
            self.wrong([("Assign", 1, [("Tuple", [target, ("Starred", BAD)])], A)], (0, 2, 0, 1, 1, 1))

    def test_calls_are_not_nested_as_deep_as_trees(self):
        def deepest(tree):
            found, now = [0], [0]
            def note(frame, event, _):
                now[0] += {"call": 1, "return": -1}.get(event, 0)
                found[0] = max(found[0], now[0])
            sys.setprofile(note)
            try:
                check(tree)
            finally:
                sys.setprofile(None)
            return found[0]
        self.assertLess(deepest(nested(1000)), 150)
        self.assertEqual(deepest(nested(300)), deepest(nested(1000)))


# What may be around an expression, and the step from it to this.
DEEP_EXPRESSIONS = (
    (lambda x: ("UnaryOp", "-", x), (2,)), (lambda x: ("BinOp", A, "+", x), (3,)), (lambda x: ("Call", A, [A, x], []), (2, 1)),
    (lambda x: ("Call", A, [], [("k", x)]), (3, 0, 1)), (lambda x: ("Subscript", A, ("Slice", None, x)), (2, 2)), (lambda x: ("List", [("Starred", x)]), (1, 0, 1)),
    (lambda x: ("Dict", [A, x], [A, A]), (1, 1)), (lambda x: ("Lambda", ([], [], None, ["k"], [x], None), A), (1, 4, 0)),
    (lambda x: ("ListComp", A, [(A, A, []), (A, x, [])]), (2, 1, 1)), (lambda x: ("DictComp", A, A, [(("Attribute", x, "y"), A, [])]), (3, 0, 0, 1)),
    (lambda x: ("IfExp", A, x, A), (2,)), (lambda x: ("Attribute", x, "y"), (1,)),
)


class LongTests(PlaceTests):
    def test_a_fault_in_each_statement(self):
        tree = [("Pass", line) for line in range(1, 401)]
        for at in range(400):
            self.wrong(tree[:at] + [("Pass", at)] + tree[at + 1:], (at,))

    def test_two_faults_in_each_order(self):
        tree = [("Expr", line, A) for line in range(1, 401)]
        for first, second in ((0, 399), (7, 8), (200, 301)):
            for one, other in ((("Expr", 1, BAD), ("Pass", 0)), (("Pass", True), ("Expr", 400, BAD))):
                wrong = list(tree)
                wrong[first], wrong[second] = one, other
                due = (first, 2) if one[0] == "Expr" and first == 0 else (first,)
                self.wrong(wrong, due)

    def test_a_line_is_compared_with_the_last_one_inside(self):
        tree = [("If", 1, A, [("While", 2, A, [("Pass", 3)], [("Pass", 4)])], []), ("Pass", 5)]
        self.assertIsNone(check(tree))
        for line, place in ((4, (1,)), (3, (1,)), (1, (1,)), (1000001, (1,))):
            self.wrong([tree[0], ("Pass", line)], place)

    def test_a_row_behind_a_wrong_node_is_never_looked_at(self):
        for behind in (5, None, [], [5], ["x", {}]):
            self.wrong([("If", 1, BAD, [("Pass", 2)], [("Pass", 3)]), behind], (0, 2))
            self.wrong([("Expr", 1, ("Tuple", [BAD, behind]))], (0, 2, 1, 0))


class TimeTests(unittest.TestCase):
    def test_few_calls_for_each_node(self):
        tree = many_small_nodes(24)
        nodes = len([place for place in places(tree) if place and isinstance(at_place(tree, place), tuple)])
        self.assertLess(calls_of(check, tree), 8 * nodes)
        self.assertLess(calls_of(scopes, tree), 11 * nodes)

    def test_calls_grow_as_the_tree_does(self):
        few, many = (calls_of(check, many_small_nodes(times)) for times in (10, 100))
        self.assertLess(many, 11 * few)
        few, many = (calls_of(check, nested(times)) for times in (30, 300))
        self.assertLess(many, 11 * few)

    def test_little_is_done_once_for_each_call(self):
        self.assertLess(calls_of(check, [("Pass", 1)]), 25)
        self.assertLess(calls_of(check, [("Pass", 0)]), 30)

    def test_what_is_behind_a_fault_takes_no_time(self):
        tree = [("Pass", 0)] + many_small_nodes(24)
        self.assertLess(calls_of(check, tree), 200)

    def test_the_showcase(self):
        self.assertLess(calls_of(check, showcase()), 3 * len(places(showcase())))


if __name__ == "__main__":
    unittest.main()
