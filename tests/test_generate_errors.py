"""Programs that generate refuses: which line and which word."""

import unittest

from codewalk.errors import NoProgram, NoTree
from codewalk.generate import generated
from codewalk.scopes import scopes
from tests.samples import NOTHING, assign, class_of, clause, constant, expr, function, name, numbers

A, B = name("a"), name("b")
ONE = constant(1)
TWICE = ("Call", A, [], [("k", A), ("j", A), ("k", B)])
GIVE = ("Yield", A)


def looped(body, line=1):
    return ("While", line, A, body, [])


def bare(line, last=A):
    """A Try with a handler without a kind, which is not the last one, two lines further."""
    return ("Try", line, [("Pass", line + 1)], [(line + 2, None, None, [("Pass", line + 3)]),
                                               (line + 4, last, None, [("Pass", line + 5)])], [], [])


class Refusals(unittest.TestCase):
    def refused(self, tree, line, why):
        scopes(tree)
        with self.assertRaises(NoProgram, msg=repr(tree)) as caught:
            generated(tree)
        self.assertEqual((caught.exception.line, caught.exception.why), (line, why), repr(tree))


class WordTests(Refusals):
    def test_return(self):
        for value in (None, A, ONE):
            self.refused([("Return", 3, value)], 3, "return")
            self.refused([class_of("K", [("Return", 4, value)], 3)], 4, "return")
            self.refused([function("f", [class_of("K", [("If", 3, A, [("Return", 4, value)], [])], 2)])], 4, "return")
            generated([class_of("K", [function("f", [("Return", 4, value)], 3)], 2)])

    def test_break_and_continue(self):
        for word, why in (("Break", "break"), ("Continue", "continue")):
            self.refused([(word, 4)], 4, why)
            self.refused([("If", 1, A, [("Pass", 2)], [(word, 4)])], 4, why)
            self.refused([looped([function("f", [(word, 4)], 3)], 2)], 4, why)
            self.refused([looped([class_of("K", [(word, 4)], 3)], 2)], 4, why)
            self.refused([("While", 1, A, [("Pass", 2)], [(word, 3)])], 3, why)
            self.refused([("For", 1, A, B, [("Pass", 2)], [(word, 3)])], 3, why)
            self.refused([looped([("Pass", 2)]), (word, 3)], 3, why)
            generated([looped([(word, 2)])])
            generated([("For", 1, A, B, [(word, 2)], [])])
            generated([looped([("For", 2, A, B, [("Pass", 3)], [(word, 4)])])])
            generated([looped([("Try", 2, [(word, 3)], [(4, A, None, [(word, 5)])], [(word, 6)], [(word, 7)])])])
            generated([looped([("With", 2, [(A, None)], [("If", 3, A, [(word, 4)], [(word, 5)])])])])
            generated([looped([function("f", [("Pass", 3)], 2), class_of("K", [("Pass", 5)], 4), (word, 6)])])

    def test_bare(self):
        self.refused([bare(1)], 3, "bare")
        self.refused([bare(1, None)], 3, "bare")
        self.refused([function("f", [bare(2)])], 4, "bare")
        generated([("Try", 1, [("Pass", 2)], [(3, None, None, [("Pass", 4)])], [], [])])
        generated([("Try", 1, [("Pass", 2)], [(3, A, None, [("Pass", 4)]), (5, None, None, [("Pass", 6)])], [], [])])

    def test_twice(self):
        self.refused([expr(TWICE, 4)], 4, "twice")
        self.refused([expr(("Call", A, [], [("k", A), (None, B), ("k", B)]), 4)], 4, "twice")
        self.refused([function("f", [("Pass", 9)], 4, NOTHING, [TWICE])], 4, "twice")
        self.refused([function("f", [("Pass", 9)], 4, (["p"], [TWICE], None, [], [], None))], 4, "twice")
        self.refused([class_of("K", [("Pass", 9)], 4, [("Lambda", NOTHING, TWICE)])], 4, "twice")
        self.refused([("Try", 1, [("Pass", 2)], [(3, TWICE, None, [("Pass", 4)])], [], [])], 3, "twice")
        self.refused([expr(("ListComp", A, [clause(A, B, TWICE)]), 4)], 4, "twice")
        generated([expr(("Call", A, [], [(None, A), (None, B)]))])
        generated([expr(("Call", A, [("Call", A, [], [("k", A)])], [("k", ("Call", A, [], [("k", A)]))]))])

    def test_yield(self):
        for value in (GIVE, ("YieldFrom", A), ("Yield", None)):
            self.refused([expr(value, 4)], 4, "yield")
            self.refused([class_of("K", [expr(value, 4)], 3)], 4, "yield")
            self.refused([assign(("Attribute", value, "x"), A, 4)], 4, "yield")
            self.refused([expr(("ListComp", A, [clause(A, value)]), 4)], 4, "yield")
            self.refused([expr(("Lambda", (["p"], [value], None, [], [], None), A), 4)], 4, "yield")
            self.refused([function("f", [("Pass", 5)], 4, NOTHING, [value])], 4, "yield")
            body = [class_of("K", [("Pass", 5)], 4, [A], [B]), class_of("L", [expr(value, 7)], 6)]
            self.refused([function("g", body)], 7, "yield")
            generated([expr(("Lambda", NOTHING, value))])
            generated([function("g", [class_of("K", [("Pass", 5)], 4, [value])])])


class SeveralTests(Refusals):
    def test_the_least_line(self):
        self.refused([expr(GIVE, 2), ("Return", 3, A)], 2, "yield")
        self.refused([("Continue", 2), ("Break", 3)], 2, "continue")
        self.refused([function("f", [class_of("K", [("Return", 5, A)], 3)], 2), ("Break", 9)], 5, "return")
        self.refused([function("f", [expr(A, 3)], 2, NOTHING, [TWICE]), ("Return", 9, A)], 2, "twice")
        self.refused([bare(1), ("Break", 9)], 3, "bare")
        self.refused([expr(TWICE, 1), bare(2)], 1, "twice")
        self.refused([("If", 1, GIVE, [("Break", 2)], [])], 1, "yield")

    def test_the_first_word_for_one_line(self):
        self.refused([("Return", 2, GIVE)], 2, "return")
        self.refused([("Return", 2, TWICE)], 2, "return")
        self.refused([expr(("Call", GIVE, [], [("k", A), ("k", B)]), 2)], 2, "twice")
        self.refused([expr(("Tuple", [GIVE, TWICE]), 2)], 2, "twice")
        self.refused([class_of("K", [("Return", 3, ("Tuple", [GIVE, TWICE]))], 2)], 3, "return")

    def test_any_order(self):
        faults = [
            (lambda line: ("Return", line, A), "return"), (lambda line: ("Break", line), "break"),
            (lambda line: ("Continue", line), "continue"), (lambda line: expr(TWICE, line), "twice"),
            (lambda line: expr(GIVE, line), "yield"),
        ]
        pick = numbers(77)
        for _ in range(200):
            chosen = pick.sample(faults, 3)
            first = pick.randint(2, 50)
            tree = [("Pass", 1)] + [made(first + 3 * at) for at, (made, _) in enumerate(chosen)]
            self.refused(tree, first, chosen[0][1])
            self.refused([class_of("K", tree[1:])], first, chosen[0][1])


class AheadTests(unittest.TestCase):
    def first(self, tree, line, why):
        with self.assertRaises(NoProgram) as caught:
            generated(tree)
        self.assertEqual((caught.exception.line, caught.exception.why), (line, why))

    def test_the_errors_of_scopes_come_first(self):
        self.first([("Break", 1), ("Nonlocal", 2, ["x"])], 2, "outside")
        self.first([("Return", 1, A), function("f", [("Nonlocal", 3, ["x"])], 2)], 3, "unbound")
        self.first([expr(GIVE, 1), function("f", [("Pass", 3)], 2, (["x", "x"], [], None, [], [], None))], 2, "again")
        self.first([("Return", 1, ("ListComp", GIVE, [clause(A)]))], 1, "inside")
        self.first([("Break", 1), expr(A, 2), ("Global", 3, ["a"])], 3, "late")

    def test_no_tree_comes_ahead_of_all(self):
        for tree, place in (
            ([("Break", 1), ("Pass", 1)], (1,)), ([("Return", 1, GIVE), ("Nonlocal", 2, [])], (1,)),
            ([("Return", 1, ("Yield",))], (0, 2)), ([], ()), ("Break", ()),
        ):
            with self.assertRaises(NoTree) as caught:
                generated(tree)
            self.assertEqual(caught.exception.place, place)


if __name__ == "__main__":
    unittest.main()
