import unittest

from codewalk import errors
from codewalk.scopes import scopes
from codewalk.trees import check
from tests.samples import (
    EXPRESSION_WORDS, NOTHING, STATEMENT_WORDS, assign, at_place, clause, constant, expr, function,
    is_wordless, name, named, node_around, numbers, part, places, replaced, showcase, slot, small_trees, starred,
)

A, B = name("a"), name("b")
PASS = [("Pass", 900)]

BAD_NAMES = (
    "", "1a", "a b", "a-b", "a.b", "a" * 21, "__a", "__a_", "___a", "__" + "a" * 17 + "__",
    "caf\u00e9", "\uff41", "a\n",
    "False", "None", "True", "and", "as", "assert", "async", "await", "break", "class", "continue", "def", "del",
    "elif", "else", "except", "finally", "for", "from", "global", "if", "import", "in", "is", "lambda", "nonlocal",
    "not", "or", "pass", "raise", "return", "try", "while", "with", "yield",
    b"a", 1, True, 1.5, ("a",), ["a"], {"a": 1}, frozenset(["a"]), object(), str,
)


def junk():
    """Objects of all sorts, none of which is a node, a row, a name, a word, an operator, a constant or a line."""
    return [
        1.5, 2j, b"Name", bytearray(b"x"), memoryview(b"x"), {}, {"Name": "a"}, {1}, frozenset([1]), range(3), slice(1),
        object(), int, tuple, len, junk, iter([]), (x for x in "a"), Ellipsis, NotImplemented, errors.NoTree(()),
        errors.NoTree, (), (1,), ("Nothing",), ("Nothing", 1, 2, 3, 4),
    ]


# Tuples that are no nodes with a word, but long enough for a handler, an item and the like.
TUPLES = [(None, 1), ([], []), ((), ()), ("name", "a"), ("Nothing", A, A), (1, A, None, PASS), NOTHING]


class WrongTrees(unittest.TestCase):
    """What the tests of wrong trees have in common."""

    def wrong(self, tree, place):
        for taking in (check, scopes):
            with self.assertRaises(errors.NoTree, msg=repr(tree)[:500]) as caught:
                taking(tree)
            self.assertEqual(caught.exception.place, place, repr(tree)[:500])
            self.assertIs(type(caught.exception.place), tuple)

    def wrong_value(self, value, *steps):
        """An expression that is wrong at these steps from itself."""
        self.wrong([expr(value)], (0, 2, *steps))

    def wrong_statement(self, statement, *steps):
        self.wrong([statement], (0, *steps))


class FormTests(WrongTrees):
    def test_the_example(self):
        self.wrong([("Pass", 2), ("Pass", 2)], (1,))

    def test_the_program_itself(self):
        for tree in [x for x in junk() if not isinstance(x, tuple)] + [[], (), None, "Pass", 1, True]:
            self.wrong(tree, ())
        self.wrong(("Pass", 1), (0,))

    def test_any_object_in_the_place_of_any_node(self):
        for tree in small_trees():
            for place in places(tree):
                node = at_place(tree, place)
                if isinstance(node, tuple):
                    wordless = is_wordless(tree, place)
                    due = node_around(tree, place) if wordless else place
                    for thing in [*junk(), 5, True, "a", [], list(node), *([] if wordless else TUPLES)]:
                        self.wrong(replaced(tree, place, thing), due)

    def test_any_object_in_the_place_of_any_row(self):
        for tree in small_trees():
            for place in places(tree):
                if isinstance(at_place(tree, place), list):
                    for thing in [x for x in junk() if not isinstance(x, tuple)] + [None, 5, True, "", "a"]:
                        self.wrong(replaced(tree, place, thing), place[:-1])

    def test_any_object_in_the_place_of_any_word_name_operator_and_line(self):
        for tree in small_trees():
            for place in places(tree):
                here = at_place(tree, place)
                if isinstance(here, (str, int)) and at_place(tree, place[:-1])[0] != "Constant":
                    for thing in [*junk(), True, "", [here], (here,)]:
                        self.wrong(replaced(tree, place, thing), node_around(tree, place))

    def test_any_object_where_an_expression_or_none_may_stand(self):
        for thing in [*junk(), 5, True, "a", [], *TUPLES]:
            self.wrong_statement(("Return", 1, thing), 2)
            self.wrong_statement(("Raise", 1, thing, None), 2)
            self.wrong_statement(("Raise", 1, A, thing), 3)
            self.wrong_statement(("Assert", 1, A, thing), 3)
            self.wrong_statement(("With", 1, [(A, thing)], PASS), 2, 0, 1)
            self.wrong_statement(("Try", 1, [("Pass", 2)], [(3, thing, None, PASS)], [], []), 3, 0, 1)
            self.wrong_value(("Yield", thing), 1)
            self.wrong_value(slot(A, part(thing, None)), 2, 1)
            self.wrong_value(slot(A, part(None, thing)), 2, 2)
            self.wrong_value(("Lambda", ([], [], None, ["a"], [thing], None), A), 1, 4, 0)

    def test_none_where_an_expression_must_stand(self):
        for tree in small_trees():
            for place in places(tree):
                if isinstance(at_place(tree, place), tuple) and not is_wordless(tree, place):
                    if not self.may_be_none(tree, place):
                        self.wrong(replaced(tree, place, None), place)

    def may_be_none(self, tree, place):
        up, at = at_place(tree, place[:-1]), place[-1]
        if isinstance(up, list):
            return len(place) > 2 and place[-2] == 4 and is_wordless(tree, place[:-2])
        if is_wordless(tree, place[:-1]):
            return (len(up), at) in ((4, 1), (2, 1)) and up[0] is not None and not isinstance(up[0], str)
        return (up[0], at) in (
            ("Return", 2), ("Raise", 2), ("Raise", 3), ("Assert", 3), ("Yield", 1), ("Slice", 1), ("Slice", 2))

    def test_one_part_more_or_one_fewer(self):
        for tree in small_trees():
            for place in places(tree):
                node = at_place(tree, place)
                if isinstance(node, tuple):
                    due = node_around(tree, place) if is_wordless(tree, place) else place
                    self.wrong(replaced(tree, place, node + (None,)), due)
                    self.wrong(replaced(tree, place, node[:-1]), due)

    def test_words_of_the_other_sort(self):
        self.wrong([("Name", "a")], (0,))
        self.wrong([("Constant", 1)], (0,))
        self.wrong_value(("Pass", 1))
        self.wrong_value(("Return", 1, None))
        self.wrong([(1, A, None, PASS)], (0,))


class LineTests(WrongTrees):
    def test_lines_out_of_bounds(self):
        for line in (0, -1, 1000001, 10 ** 30, True, 1.0, "1", None, (1,)):
            self.wrong([("Pass", line)], (0,))
            self.wrong([("Try", 1, [("Pass", 2)], [(line, None, None, PASS)], [], [])], (0, 3, 0))

    def test_lines_that_do_not_grow(self):
        self.wrong([("Pass", 5), ("Pass", 4)], (1,))
        self.wrong([("If", 5, A, [("Pass", 5)], [])], (0, 3, 0))
        self.wrong([("If", 5, A, [("Pass", 6)], [("Pass", 6)])], (0, 4, 0))
        self.wrong([("If", 5, A, [("Pass", 7)], []), ("Pass", 7)], (1,))
        self.wrong([("While", 5, A, [("Pass", 7)], [("Pass", 6)])], (0, 4, 0))
        self.wrong([("For", 5, A, B, [("Pass", 7)], [("Pass", 6)])], (0, 5, 0))
        self.wrong([("With", 5, [(A, None)], [("Pass", 4)])], (0, 3, 0))
        self.wrong([function("f", [("Pass", 2), ("Pass", 2)])], (0, 4, 1))
        self.wrong([("Class", 1, "C", [], [("Pass", 1)], [])], (0, 4, 0))

    def test_lines_of_a_try(self):
        def tried(body, first, inner, other, last):
            return [("Try", 10, [("Pass", body)], [(first, A, None, [("Pass", inner)])], [("Pass", other)],
                     [("Pass", last)])]
        check(tried(11, 12, 13, 14, 15))
        self.wrong(tried(10, 12, 13, 14, 15), (0, 2, 0))
        self.wrong(tried(11, 11, 13, 14, 15), (0, 3, 0))
        self.wrong(tried(11, 12, 12, 14, 15), (0, 3, 0, 3, 0))
        self.wrong(tried(11, 12, 13, 13, 15), (0, 4, 0))
        self.wrong(tried(11, 12, 13, 14, 14), (0, 5, 0))


class NameTests(WrongTrees):
    def test_names_where_the_forms_have_them(self):
        for word in BAD_NAMES:
            self.wrong_value(("Name", word))
            self.wrong_value(("Attribute", A, word))
            self.wrong_value(("NamedExpr", word, A))
            self.wrong_value(("Call", A, [], [("k", A), (word, A)]), 3, 1)
            self.wrong(([assign(("Name", word))]), (0, 2, 0))
            self.wrong_statement(function(word, PASS))
            self.wrong_statement(("Class", 1, word, [], PASS, []))
            self.wrong_statement(("Global", 1, ["a", word]))
            self.wrong_statement(("Nonlocal", 1, [word, "a"]))
            self.wrong_statement(("Try", 1, [("Pass", 2)], [(3, A, word, PASS)], [], []), 3, 0)

    def test_names_of_parameters(self):
        for word in BAD_NAMES:
            for taken in (
                (["a", word], [], None, [], [], None), ([], [], word, [], [], None),
                ([], [], None, [word], [None], None), ([], [], None, [], [], word),
            ):
                self.wrong_statement(function("f", PASS, 1, taken), 3)
                self.wrong_value(("Lambda", taken, A), 1)

    def test_none_where_a_name_must_be(self):
        for value in (("Name", None), ("Attribute", A, None), ("NamedExpr", None, A)):
            self.wrong_value(value)
        self.wrong_statement(function(None, PASS))
        self.wrong_statement(("Class", 1, None, [], PASS, []))
        self.wrong_statement(("Global", 1, [None]))
        self.wrong_value(("Lambda", ([None], [], None, [], [], None), A), 1)
        self.wrong_value(("Lambda", ([], [], None, [None], [None], None), A), 1)


class PositionTests(WrongTrees):
    def test_what_is_no_target(self):
        call = ("Call", A, [], [])
        for value in (constant(1), call, ("BinOp", A, "+", B), named("a"), part(A, B), starred(A), ("Dict", [], [])):
            self.wrong([assign(value)], (0, 2, 0))
            self.wrong([("Assign", 1, [A, value], B)], (0, 2, 1))
            self.wrong([("AugAssign", 1, value, "+", B)], (0, 2))
            self.wrong([("Delete", 1, [A, value])], (0, 2, 1))
            self.wrong([("For", 1, value, A, PASS, [])], (0, 2))
            self.wrong([("With", 1, [(A, None), (A, value)], PASS)], (0, 2, 1, 1))
            self.wrong_value(("ListComp", A, [(value, A, [])]), 2, 0, 0)
            self.wrong_value(("GeneratorExp", A, [(A, A, []), (value, A, [])]), 2, 1, 0)
            self.wrong_value(("DictComp", A, A, [(value, A, [])]), 3, 0, 0)
        for value in (constant(1), call, part(A, B), starred(starred(A)), starred(constant(1))):
            due = (1,) if value[0] == "Starred" else ()
            self.wrong([assign(("Tuple", [A, value]))], (0, 2, 0, 1, 1, *due))
            self.wrong([assign(("List", [A, ("Tuple", [value])]))], (0, 2, 0, 1, 1, 1, 0, *due))

    def test_a_target_must_not_be_missing(self):
        self.wrong([("Assign", 1, [], A)], (0,))
        self.wrong([("Delete", 1, [])], (0,))
        self.wrong([("For", 1, None, A, PASS, [])], (0, 2))
        self.wrong([assign(None)], (0, 2, 0))

    def test_a_tuple_where_one_must_be(self):
        for value in (("Tuple", [A]), ("List", [A]), ("Tuple", [])):
            self.wrong([("AugAssign", 1, value, "+", B)], (0, 2))
            self.wrong([("Delete", 1, [value])], (0, 2, 0))

    def test_two_starred_in_one_target(self):
        two = ("Tuple", [starred(A), B, starred(A)])
        self.wrong([assign(two)], (0, 2, 0))
        self.wrong([assign(("List", two[1]))], (0, 2, 0))
        self.wrong([assign(("List", [A, two]))], (0, 2, 0, 1, 1))
        self.wrong([assign(("Tuple", [starred(two)]))], (0, 2, 0, 1, 0, 1))
        check([assign(("Tuple", [starred(A), ("Tuple", [starred(B)])]), two)])

    def test_two_starred_ahead_of_what_is_in_them(self):
        self.wrong([assign(("Tuple", [constant(1), starred(A), starred(constant(1))]))], (0, 2, 0))
        self.wrong([assign(("Tuple", [starred(A), ("Starred", A, B)]))], (0, 2, 0, 1, 1))

    def test_a_slice_to_be_deleted(self):
        self.wrong([("Delete", 1, [slot(A, B), slot(A, part(None, None))])], (0, 2, 1))
        self.wrong([("Delete", 1, [slot(constant(1.5), part(1, 2))])], (0, 2, 0))
        self.wrong([("Delete", 1, [slot(A, ("Slice", None))])], (0, 2, 0, 2))
        check([("Delete", 1, [slot(slot(A, part(None, B)), B), ("Attribute", slot(A, part(A, None)), "x")])])

    def test_a_slice_elsewhere(self):
        for value, steps in (
            (part(A, B), ()), (("Tuple", [part(A, B)]), (1, 0)), (slot(part(A, B), A), (1,)),
            (slot(A, ("Tuple", [A, part(A, B)])), (2, 1, 1)), (slot(A, part(part(A, B), B)), (2, 1)),
            (("Call", A, [part(A, B)], []), (2, 0)), (("Yield", part(A, B)), (1,)), (starred(part(A, B)), ()),
        ):
            self.wrong_value(value, *steps)

    def test_a_starred_elsewhere(self):
        star = starred(A)
        for value, steps in (
            (star, ()), (slot(A, star), (2,)), (slot(A, part(star, B)), (2, 1)), (("Yield", star), (1,)),
            (("Dict", [star], [A]), (1, 0)), (("Dict", [A], [star]), (2, 0)), (("Call", star, [], []), (1,)),
            (("Call", A, [], [("k", star)]), (3, 0, 1)), (("Tuple", [starred(star)]), (1, 0, 1)),
            (("BoolOp", "and", [A, star]), (2, 1)), (("Compare", A, ["<"], [star]), (3, 0)), (named("a", star), (2,)),
            (("ListComp", star, [clause(A)]), (1,)), (("ListComp", A, [clause(A, star)]), (2, 0, 1)),
            (("ListComp", A, [clause(A, B, A, star)]), (2, 0, 2, 1)), (("YieldFrom", star), (1,)),
            (("Lambda", (["a"], [star], None, [], [], None), A), (1, 1, 0)), (("Lambda", NOTHING, star), (2,)),
        ):
            self.wrong_value(value, *steps)
        self.wrong_statement(("Return", 1, star), 2)
        self.wrong_statement(("Class", 1, "C", [star], PASS, []), 3, 0)
        self.wrong_statement(function("f", PASS, 1, NOTHING, [star]), 5, 0)
        self.wrong_statement(("With", 1, [(star, None)], PASS), 2, 0, 0)


class RowTests(WrongTrees):
    def test_rows_that_are_too_short(self):
        self.wrong_value(("BoolOp", "and", []))
        self.wrong_value(("BoolOp", "or", [A]))
        self.wrong_value(("Compare", A, [], []))
        self.wrong_value(("ListComp", A, []))
        self.wrong_value(("GeneratorExp", A, []))
        self.wrong_value(("DictComp", A, A, []))
        for statement in (
            ("Global", 1, []), ("Nonlocal", 1, []), ("If", 1, A, [], PASS), ("While", 1, A, [], []),
            ("For", 1, A, B, [], []), ("With", 1, [], PASS), ("With", 1, [(A, None)], []), function("f", []),
            ("Class", 1, "C", [], [], []), ("Try", 1, [], [(3, None, None, PASS)], [], []),
            ("Try", 1, [], [], [], PASS),
        ):
            self.wrong_statement(statement)
        self.wrong_statement(("Try", 1, [("Pass", 2)], [(3, None, None, [])], [], []), 3, 0)

    def test_rows_that_do_not_fit(self):
        self.wrong_value(("Dict", [A], []))
        self.wrong_value(("Dict", [], [A]))
        self.wrong_value(("Compare", A, ["<"], [A, B]))
        self.wrong_value(("Compare", A, ["<", "<"], [A]))
        for taken in (
            (["a"], [A, B], None, [], [], None), ([], [A], None, [], [], None), ([], [], None, ["a"], [], None),
            ([], [], None, [], [A], None), ([], [], None, ["a"], [A, None], None),
        ):
            self.wrong_value(("Lambda", taken, A), 1)
            self.wrong_statement(function("f", PASS, 1, taken), 3)

    def test_defaults(self):
        self.wrong_value(("Lambda", (["a"], [None], None, [], [], None), A), 1, 1, 0)
        self.wrong_value(("Lambda", ([], [], None, ["a", "b"], [None, 1], None), A), 1, 4, 1)

    def test_parts_that_do_not_go_together(self):
        self.wrong_statement(("Raise", 1, None, A))
        self.wrong_statement(("Try", 1, [("Pass", 2)], [(3, None, "e", PASS)], [], []), 3, 0)
        self.wrong_statement(("Try", 1, [("Pass", 2)], [], [("Pass", 3)], [("Pass", 4)]))
        self.wrong_statement(("Try", 1, [("Pass", 2)], [], [("Pass", 3)], []))
        self.wrong_statement(("Try", 1, [("Pass", 2)], [], [], []))

    def test_operators(self):
        for op in ("", "%", "/", "@", "and", "not", "<", "+=", "is not", None, 1, ["+"], ("+",), b"+"):
            self.wrong_value(("BinOp", A, op, B))
            self.wrong_statement(("AugAssign", 1, A, op, B))
        for op in ("+", "", "and", None, ["-"]):
            self.wrong_value(("UnaryOp", op, A))
        for op in ("not", "|", "AND", None, ["or"]):
            self.wrong_value(("BoolOp", op, [A, B]))
        for op in ("<>", "isnot", "is  not", "+", "=", None, ["<"]):
            self.wrong_value(("Compare", A, ["<", op], [A, B]))

    def test_operators_that_are_right(self):
        for op in ("+", "-", "*", "//", "mod", "**", "<<", ">>", "&", "|", "^"):
            check([expr(("BinOp", A, op, B)), ("AugAssign", 2, A, op, B)])
        for op in ("-", "~", "not"):
            check([expr(("UnaryOp", op, A))])
        for op in ("==", "!=", "<", "<=", ">", ">=", "is", "is not", "in", "not in"):
            check([expr(("Compare", A, [op, op], [A, B]))])

    def test_constants(self):
        for value in [x for x in junk()] + [1.0, [], ["a"], (1, 2), ("a",)]:
            self.wrong_value(("Constant", value))


class ManyFaultsTests(WrongTrees):
    def faults(self):
        """Single faults of the showcase: a place, what to put there, and the node that is wrong then."""
        tree = showcase()
        found = []
        for place in places(tree):
            here = at_place(tree, place)
            if not place or place[0] == 0:
                continue
            if isinstance(here, tuple) and not is_wordless(tree, place):
                found.append((place, ("Nothing", here), place))
            elif isinstance(here, list):
                found.append((place, {}, place[:-1]))
            elif here in STATEMENT_WORDS + EXPRESSION_WORDS:
                found.append((place, "Nothing", place[:-1]))
        return found

    def test_the_first_of_two_or_three(self):
        tree, found, pick = showcase(), self.faults(), numbers(16)
        for _ in range(1000):
            chosen = pick.sample(found, pick.choice((2, 3)))
            wrong = tree
            # Those inside first: a place in what has been put in is none.
            for place, thing, _ in sorted(chosen, reverse=True):
                wrong = replaced(wrong, place, thing)
            self.wrong(wrong, min([due for _, _, due in chosen]))

    def test_all_keys_ahead_of_all_values(self):
        bad = ("Name", "1")
        self.wrong_value(("Dict", [A, bad], [bad, A]), 1, 1)

    def test_the_order_of_the_forms(self):
        bad = ("Name", "1")
        for value, steps in (
            (("BinOp", bad, "+", bad), (1,)), (("IfExp", bad, bad, A), (1,)), (("IfExp", A, bad, bad), (2,)),
            (("Compare", bad, ["<"], [bad]), (1,)), (("Call", bad, [bad], []), (1,)), (slot(bad, bad), (1,)),
            (("Call", A, [bad], [("k", bad)]), (2, 0)), (slot(A, part(bad, bad)), (2, 1)),
            (("ListComp", bad, [clause(bad)]), (1,)), (("DictComp", A, bad, [clause(bad)]), (2,)),
            (("ListComp", A, [clause(bad, bad, bad)]), (2, 0, 0)), (("ListComp", A, [clause(A, bad, bad)]), (2, 0, 1)),
            (("Lambda", (["a"], [bad], None, ["b"], [bad], None), bad), (1, 1, 0)),
            (("Lambda", ([], [], None, ["b"], [bad], None), bad), (1, 4, 0)),
        ):
            self.wrong_value(value, *steps)
        wrong_body = [("Pass", 0)]
        taken = (["a"], [bad], None, [], [], None)
        for statement, steps in (
            (("Assign", 1, [bad], bad), (2, 0)), (("AugAssign", 1, bad, "+", bad), (2,)),
            (("Raise", 1, bad, bad), (2,)), (("Assert", 1, bad, bad), (2,)), (("For", 1, bad, bad, PASS, []), (2,)),
            (("If", 1, bad, wrong_body, wrong_body), (2,)), (("If", 1, A, wrong_body, wrong_body), (3, 0)),
            (("With", 1, [(bad, bad)], wrong_body), (2, 0, 0)), (("With", 1, [(A, bad)], wrong_body), (2, 0, 1)),
            (function("f", wrong_body, 1, taken, [bad]), (3, 1, 0)),
            (function("f", wrong_body, 1, NOTHING, [bad]), (4, 0)),
            (("Class", 1, "C", [bad], wrong_body, [bad]), (3, 0)), (("Class", 1, "C", [], wrong_body, [bad]), (4, 0)),
            (("Try", 1, wrong_body, [(3, bad, None, PASS)], wrong_body, wrong_body), (2, 0)),
            (("Try", 1, [("Pass", 2)], [(3, bad, None, wrong_body)], wrong_body, wrong_body), (3, 0, 1)),
            (("Try", 1, [("Pass", 2)], [(3, A, None, wrong_body)], wrong_body, wrong_body), (3, 0, 3, 0)),
            (("Try", 1, [("Pass", 2)], [(3, A, None, [("Pass", 4)])], wrong_body, wrong_body), (4, 0)),
        ):
            self.wrong_statement(statement, *steps)

    def test_a_node_ahead_of_the_ones_inside(self):
        bad = ("Name", "1")
        for value in (
            ("BinOp", bad, "?", bad), ("Attribute", bad, "1"), ("NamedExpr", "1", bad), starred(bad), part(bad, bad),
            ("Call", bad, [], [("k",)]), ("Lambda", (), bad), ("ListComp", bad, [(A, B)]), ("Dict", [bad], []),
        ):
            self.wrong_value(value)
        for statement in (
            ("If", 0, bad, PASS, []), ("Try", 1, [("Pass", 0)], [(1, None)], [], []), ("With", 1, [(bad,)], PASS),
            function("1", [("Pass", 0)]), ("Raise", 1, None, bad), ("Assign", 1, [bad], bad, bad),
        ):
            self.wrong_statement(statement)
        self.wrong_statement(function("f", [("Pass", 0)], 1, (["1"], [bad], None, [], [], None)), 3)
        self.wrong_value(("Call", A, [], [("1", bad)]), 3, 0)
        self.wrong_statement(("Try", 1, [("Pass", 2)], [(2, bad, None, [("Pass", 0)])], [], []), 3, 0)

    def test_an_argument_by_name(self):
        with self.assertRaises(errors.NoTree) as caught:
            check(tree=[("Pass", 0)])
        self.assertEqual(caught.exception.place, (0,))


if __name__ == "__main__":
    unittest.main()
