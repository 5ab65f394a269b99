import copy
import unittest

from codewalk.trees import check
from tests.samples import (
    EXPRESSION_WORDS, STATEMENT_WORDS, assign, at_place, constant, every_expression, every_statement, every_target,
    expr, function, name, named, nested, places, showcase, with_tuples,
)

GOOD_NAMES = (
    "a", "Z", "_", "x1", "_1", "__", "___", "____", "__a__", "__init__", "_x__", "x__", "a" * 20,
    "__" + "a" * 16 + "__",
    "none", "true", "If", "match", "case", "print", "self", "IF", "Name", "Lambda", "Starred", "mod", "_private",
)


class RightTreeTests(unittest.TestCase):
    def test_the_showcase_has_every_word(self):
        tree = showcase()
        nodes = [at_place(tree, place) for place in places(tree)]
        words = {node[0] for node in nodes if isinstance(node, tuple) and isinstance(node[0], str)}
        self.assertLessEqual(set(STATEMENT_WORDS + EXPRESSION_WORDS), words)

    def test_each_expression(self):
        for value in every_expression():
            self.assertIsNone(check([expr(value)]), value)

    def test_each_target_where_any_target_may_stand(self):
        for target in every_target():
            for tree in (
                [assign(target)],
                [("For", 1, target, name("a"), [("Pass", 2)], [])],
                [("With", 1, [(name("a"), target)], [("Pass", 2)])],
                [expr(("ListComp", name("a"), [(target, name("b"), [])]))],
            ):
                self.assertIsNone(check(tree), tree)

    def test_each_statement(self):
        for made in every_statement():
            self.assertIsNone(check(made(1)))
            self.assertIsNone(check(made(1000000 - 9)))

    def test_rows_as_lists_and_as_tuples(self):
        self.assertIsNone(check(showcase()))
        self.assertIsNone(check(with_tuples(showcase())))

    def test_nothing_is_changed(self):
        tree = showcase()
        before = copy.deepcopy(tree)
        check(tree)
        self.assertEqual(tree, before)

    def test_argument_by_name(self):
        self.assertIsNone(check(tree=[("Pass", 1)]))

    def test_names(self):
        for word in GOOD_NAMES:
            for tree in (
                [expr(name(word))], [expr(("Attribute", constant(1), word))], [expr(named(word))],
                [function(word, [("Pass", 2)])], [("Class", 1, word, [], [("Pass", 2)], [])],
                [("Global", 1, [word, word])], [("Nonlocal", 1, [word])],
                [("Try", 1, [("Pass", 2)], [(3, name("a"), word, [("Pass", 4)])], [], [])],
                [expr(("Call", name("a"), [], [(word, name("b"))]))],
                [function("f", [("Pass", 2)], 1, ([word], [], word, [word], [None], word))],
                [expr(("Lambda", ([word], [name("a")], None, [], [], None), name("a")))],
            ):
                self.assertIsNone(check(tree), tree)

    def test_lines(self):
        self.assertIsNone(check([("Pass", 1), ("Pass", 1000000)]))
        self.assertIsNone(check([("If", 7, name("a"), [("Pass", 8)], [("Pass", 9)]), ("Pass", 10)]))

    def test_deep_trees(self):
        for depth in (20, 60):
            self.assertIsNone(check(nested(depth)))

    def test_long_trees(self):
        self.assertIsNone(check([("Pass", line) for line in range(1, 401)]))

    def test_one_node_in_several_places(self):
        value = ("Tuple", [name("a")])
        self.assertIsNone(check([assign(value, value), assign(value, value, 2)]))

    def test_numbers_of_defaults(self):
        for given in range(3):
            taken = (["a", "b"], [constant(1)] * given, None, [], [], None)
            self.assertIsNone(check([expr(("Lambda", taken, name("a")))]))


if __name__ == "__main__":
    unittest.main()
