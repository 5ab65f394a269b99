"""The flow of whole codes, compared with the document taken word by word, and how many calls it makes."""

import sys
import unittest

from codewalk.errors import NoProgram
from codewalk.flow import flowed
from codewalk.generate import generated
from tests import flow_by_the_book
from tests.programs import Maker
from tests.random_rows import RowMaker
from tests.rows import PLAIN_HEAD, heads_of
from tests.samples import assign, constant, expr, function, name, numbers
from tests.test_check_walk import many_small_nodes

GONE = ("JUMP", "JUMP_NO_INTERRUPT", "SETUP_FINALLY", "SETUP_CLEANUP", "SETUP_WITH", "POP_BLOCK")


def calls_of(action, *arguments):
    """How many calls, of functions of Python and of builtins, are made in the action."""
    found = []
    sys.setprofile(lambda frame, event, _: found.append(event) if event in ("call", "c_call") else None)
    try:
        action(*arguments)
    finally:
        sys.setprofile(None)
    return len(found)


class WholeTests(unittest.TestCase):
    def compare(self, rows, head):
        kept = list(rows)
        for passes in (True, False):
            found = flowed(rows, head, passes)
            due = flow_by_the_book.flowed(rows, head, passes)
            # The text tells bools and integers apart.
            self.assertEqual(repr(found), repr(due), (passes, head, rows))
            self.assertEqual(rows, kept)
            self.look(found)

    def look(self, found):
        """What holds of all flowed rows."""
        labels = [row[1] for row in found if row[0] == "LABEL"]
        self.assertEqual(len(labels), len(set(labels)))
        for word, argument, line, handler in found:
            self.assertNotIn(word, GONE)
            if word == "LABEL":
                self.assertEqual((line, handler), (None, None))
            if handler is not None:
                self.assertIn(handler[0], labels)

    def test_programs(self):
        pick, many = numbers(5), 0
        while many < 120:
            tree = Maker(pick, pick.choice((10, 40, 80))).program()
            try:
                codes = generated(tree)
            except NoProgram:
                # Some have names that cannot be settled.
                continue
            many += 1
            for rows, head in zip(codes, heads_of(tree)):
                self.compare(rows, head)

    def test_rows_of_no_program(self):
        pick = numbers(6)
        for _ in range(600):
            names = [f"v{at}" for at in range(pick.choice((2, 4, 20)))]
            rows = RowMaker(pick, pick.choice((3, 8, 15)), names).made()
            parameters = tuple(pick.sample(names, pick.randint(0, 2)))
            self.compare(rows, ("function", "f", "f", 1, (parameters, (), None, None), (), ("x",), 3))

    def test_equal_calls(self):
        rows = RowMaker(numbers(7), 30).made()
        self.assertEqual(flowed(rows, PLAIN_HEAD), flowed(tuple(rows), PLAIN_HEAD))
        self.assertEqual(flowed(rows=rows, head=PLAIN_HEAD, passes=False), flowed(rows, PLAIN_HEAD, False))


class TimeTests(unittest.TestCase):
    """The time grows no faster than what is handed in."""

    def grows(self, made, action, few=40, many=400):
        first, second = (calls_of(action, *made(times)) for times in (few, many))
        self.assertLess(second, 1.2 * many / few * first)

    def long_function(self, times):
        a, b = name("a"), name("b")
        body = []
        for at in range(times):
            line = 10 * at + 2
            body += [
                ("If", line, ("BoolOp", "and", [a, name(f"x{at}")]), [assign(name(f"x{at}"), constant(1), line + 1)],
                 [expr(("Call", b, [a], []), line + 2)]),
                ("Try", line + 3, [expr(b, line + 4)], [(line + 5, b, "e", [expr(name(f"x{at}"), line + 6)])], [], []),
                ("For", line + 7, b, a, [("Break", line + 8)], []),
            ]
        return [function("f", body)]

    def test_generated(self):
        self.grows(lambda times: [many_small_nodes(times)], generated)
        self.grows(lambda times: [self.long_function(times)], generated)

    def test_flowed(self):
        for passes in (True, False):
            def made(times):
                tree = self.long_function(times)
                return generated(tree)[1], heads_of(tree)[1], passes
            self.grows(made, flowed)

    def test_chains_of_artificial_rows(self):
        def jumps(times):
            rows = [("LOAD_NAME", "x", 1), ("POP_JUMP_IF_TRUE", 0, 1), ("LOAD_NAME", "y", 2), ("RETURN_VALUE", None, 2)]
            for at in range(times):
                rows += [("LABEL", at, None), ("JUMP", at + 1, None)]
            return rows + [("LABEL", times, None), ("LOAD_NAME", "z", 3), ("RETURN_VALUE", None, 3)], PLAIN_HEAD

        def plain(times):
            rows = [("LOAD_NAME", "x", None), ("POP_TOP", None, None)] * times
            return rows + [("LOAD_NAME", "z", None), ("RETURN_VALUE", None, None)], PLAIN_HEAD
        for made in (jumps, plain):
            self.grows(made, flowed)

    def test_few_calls_for_each_row(self):
        tree = many_small_nodes(24)
        codes, heads = generated(tree), heads_of(tree)
        rows = sum(len(code) for code in codes)
        self.assertLess(calls_of(generated, tree), 22 * rows)
        calls = sum(calls_of(flowed, code, head) for code, head in zip(codes, heads))
        self.assertLess(calls, 25 * rows)


if __name__ == "__main__":
    unittest.main()
