"""The two tables of codes: written, read, and what is none."""

import unittest

from codewalk.codes import Code
from codewalk.errors import NoCode, NoTable
from codewalk.tables import exception_bytes, exception_rows, line_bytes, line_rows
from tests.samples import numbers
from tests.test_check_wrong import junk


def code_with(lines=(), handlers=(), line=1):
    return Code(0, 0, 1, 0, (149, 0), (), (), (), (), "f", "f", line, lines, handlers)


def joined(rows):
    found = []
    for begin, end, line in rows:
        if found and found[-1][2] == line:
            found[-1] = (found[-1][0], end, line)
        else:
            found.append((begin, end, line))
    return found


class TableTests(unittest.TestCase):
    def exceptions(self, table):
        return exception_rows(code_with(handlers=table))

    def lines(self, table, line=1):
        return line_rows(code_with(lines=table, line=line))

    def no_exceptions(self, table, at):
        with self.assertRaises(NoTable, msg=table) as caught:
            self.exceptions(table)
        self.assertEqual(caught.exception.at, at, table)

    def no_lines(self, table, at):
        with self.assertRaises(NoTable, msg=table) as caught:
            self.lines(table)
        self.assertEqual(caught.exception.at, at, table)


class ExceptionTests(TableTests):
    def test_rows_and_bytes(self):
        for rows, table in (
            ([], ()),
            ([(0, 2, 4, 0, False)], (128, 1, 2, 0)),
            ([(2, 8, 20, 1, True)], (129, 3, 10, 3)),
            ([(126, 128, 0, 31, True)], (128 + 63, 1, 0, 63)),
            ([(128, 256, 130, 32, False)], (128 + 64 + 1, 0, 64 + 1, 0, 64 + 1, 1, 64 + 1, 0)),
            ([(8190, 8192, 8192, 0, True)], (128 + 64 + 63, 63, 1, 64 + 1, 64 + 0, 0, 1)),
            ([(0, 2, 4, 0, False), (2, 4, 4, 0, False)], (128, 1, 2, 0, 129, 1, 2, 0)),
        ):
            self.assertEqual(exception_bytes(rows), table)
            self.assertEqual(exception_bytes(rows=tuple([list(row) for row in rows])), table)
            self.assertEqual(self.exceptions(table), rows)
            self.assertEqual(exception_rows(code=code_with(handlers=list(table))), rows)

    def test_kinds_of_values(self):
        found = self.exceptions((129, 3, 10, 3, 140, 2, 1, 4))
        self.assertEqual(repr(found), "[(2, 8, 20, 1, True), (24, 28, 2, 2, False)]")
        self.assertIsNot(self.exceptions(()), self.exceptions(()))
        self.assertEqual(repr(exception_bytes([])), "()")

    def test_written_and_read(self):
        pick = numbers(11)
        for _ in range(400):
            rows, at = [], 0
            for _ in range(pick.choice((0, 1, 2, 5, 30))):
                begin = at + 2 * pick.choice((0, 1, 5, 70, 5000))
                at = begin + 2 * pick.choice((1, 2, 63, 64, 4095, 4096, 10 ** 7))
                target = 2 * pick.choice((0, 1, 63, 64, 4095, 4096, 10 ** 8))
                rows.append((begin, at, target, pick.choice((0, 1, 31, 32, 2047, 2048)), pick.random() < 0.5))
            table = exception_bytes(rows)
            self.assertEqual(self.exceptions(table), rows)
            self.assertTrue(all(type(value) is int and 0 <= value <= 255 for value in table))

    def test_in_the_least_pieces(self):
        for number in (0, 1, 63, 64, 4095, 4096, 262143, 262144, 2 ** 40):
            table = exception_bytes([(0, 2, 2 * number, 0, False)])
            pieces = 1
            while number >= 64 ** pieces:
                pieces += 1
            self.assertEqual(len(table), 3 + pieces)
            self.assertEqual(self.exceptions(table), [(0, 2, 2 * number, 0, False)])

    def test_ends_within_an_entry(self):
        for table in ((128,), (128, 1), (128, 1, 2), (192 + 1,), (128, 64 + 1), (128, 1, 64 + 1, 64), (128, 1, 2, 65),
                      (128, 1, 2, 0, 129), (128, 1, 2, 0, 129, 1, 2)):
            self.no_exceptions(table, len(table))

    def test_bytes_that_are_wrong(self):
        for table, at in (
            ((0,), 0), ((1, 1, 2, 0), 0), ((64 + 1, 1, 1, 2, 0), 0), ((128, 129, 2, 0), 1), ((128, 1, 130, 0), 2),
            ((128, 1, 2, 131), 3), ((192 + 1, 128, 1, 2, 0), 1), ((128, 65, 129, 2, 0), 2),
            ((128, 1, 2, 0, 1, 1, 2, 0), 4), ((192, 1, 1, 2, 0), 0), ((128, 64, 1, 2, 0), 1), ((128, 1, 64, 2, 0), 2),
            ((128, 1, 2, 64, 0), 3), ((192,), 0), ((128, 64), 1),
        ):
            self.no_exceptions(table, at)

    def test_nothing_else_is_looked_at(self):
        """Rows that overlap or are empty are told as they are."""
        self.assertEqual(self.exceptions((130, 3, 0, 0, 129, 0, 5, 1)), [(4, 10, 0, 0, False), (2, 2, 10, 0, True)])


class LineTests(TableTests):
    def test_the_example(self):
        self.assertEqual(self.lines((248, 234, 0)), [(0, 2, None), (2, 8, 1)])
        self.assertEqual(line_bytes([(0, 2, None), (2, 8, 1)], 1), (248, 234, 0))

    def test_rows_and_bytes(self):
        for rows, line, table in (
            ([], 5, ()),
            ([(0, 2, 5)], 5, (232, 0)), ([(0, 2, 6)], 5, (232, 2)), ([(0, 2, 4)], 5, (232, 3)),
            ([(0, 16, 36)], 5, (239, 62)), ([(0, 16, 37)], 5, (239, 64, 1)), ([(0, 16, 1)], 32, (239, 63)),
            ([(0, 16, 1)], 33, (239, 65, 1)), ([(0, 2, 1000000)], 1, (232, 64 + 62, 64 + 17, 64 + 40, 7)),
            ([(0, 18, 7)], 7, (239, 0, 232, 0)), ([(0, 34, None)], 7, (255, 255, 248)),
            ([(0, 20, 8)], 7, (239, 2, 233, 0)),
            ([(0, 2, 9), (2, 4, None), (4, 6, 8)], 7, (232, 4, 248, 232, 3)),
        ):
            self.assertEqual(line_bytes(rows, line), table)
            self.assertEqual(line_bytes(rows=[list(row) for row in rows], line=line), table)
            self.assertEqual(self.lines(table, line), rows)
            self.assertEqual(line_rows(code=code_with(lines=list(table), line=line)), rows)

    def test_neighbours_are_joined(self):
        rows = [(0, 2, 3), (2, 10, 3), (10, 12, None), (12, 14, None), (14, 30, 4), (30, 34, 4)]
        self.assertEqual(line_bytes(rows, 1), line_bytes(joined(rows), 1))
        self.assertEqual(line_bytes(rows, 1), (236, 4, 249, 239, 2, 233, 0))
        self.assertEqual(self.lines((232, 4, 233, 0, 248, 249, 232, 0, 239, 0), 1), [
            (0, 6, 3), (6, 12, None), (12, 30, 3)])

    def test_written_and_read(self):
        pick = numbers(12)
        for _ in range(400):
            rows, at, first = [], 0, pick.choice((1, 2, 100, 999999))
            for _ in range(pick.choice((0, 1, 2, 5, 30))):
                end = at + 2 * pick.choice((1, 2, 7, 8, 9, 16, 17, 40))
                rows.append((at, end, pick.choice((None, 1, 2, 3, 31, 32, 33, 34, 4000, 1000000))))
                at = end
            table = line_bytes(rows, first)
            self.assertEqual(self.lines(table, first), joined(rows))
            self.assertTrue(all(type(value) is int and 0 <= value <= 255 for value in table))

    def test_stretches_cut_in_any_way(self):
        pick = numbers(13)
        for _ in range(300):
            table, rows, at, line = (), [], 0, 50
            for _ in range(pick.randint(0, 12)):
                units = pick.randint(1, 8)
                if pick.random() < 0.3:
                    told, table = None, table + (247 + units,)
                else:
                    told = pick.choice((line, line, line + 3, line - 2, line + 5000))
                    table = table + line_bytes([(0, 2 * units, told)], line)
                    line = told
                rows.append((at, at + 2 * units, told))
                at += 2 * units
            self.assertEqual(self.lines(table, 50), joined(rows))

    def test_lines_that_the_bytes_tell(self):
        """Lines below 1 are told, too: they are what the bytes tell."""
        self.assertEqual(self.lines((232, 5, 232, 41), 1), [(0, 2, -1), (2, 4, -21)])

    def test_ends_within_an_entry(self):
        for table in ((232,), (239, 64 + 1), (248, 232), (232, 0, 239), (232, 64, 65, 66)):
            self.no_lines(table, len(table))

    def test_bytes_that_are_wrong(self):
        for table, at in (
            ((0,), 0), ((127, 0), 0), ((128, 0), 0), ((231, 0), 0), ((240, 0), 0), ((247, 0), 0), ((200, 0), 0),
            ((248, 5), 1), ((232, 0, 0), 2), ((232, 128), 1), ((232, 232, 0), 1), ((232, 65, 248), 2),
            ((232, 1), 1), ((248, 239, 1, 0), 2), ((232, 65, 0), 2), ((232, 64, 64, 0), 3), ((232, 64, 0), 2),
            ((232, 0, 240), 2),
        ):
            self.no_lines(table, at)
        self.assertEqual(self.lines((232, 3)), [(0, 2, 0)])
        self.assertEqual(self.lines((232, 64 + 1, 1)), [(0, 2, -31)])


class AnyTableTests(TableTests):
    """Tables with a byte changed, left out, put in or cut off tell what their bytes tell, or where they are wrong."""

    def told(self, reads, table):
        try:
            return reads(table)
        except NoTable as error:
            self.assertIs(type(error.at), int)
            self.assertTrue(0 <= error.at <= len(table))
            return error.at

    def test_changed_tables(self):
        pick = numbers(14)
        good = exception_bytes([(0, 8, 200, 1, True), (8, 400, 9000, 40, False), (500, 502, 0, 0, True)])
        lines = line_bytes([(0, 8, 3), (8, 70, None), (70, 90, 900), (90, 92, 2)], 1)
        for table, reads, writes in (
            (good, self.exceptions, exception_bytes), (lines, self.lines, lambda rows: line_bytes(rows, 1)),
        ):
            for _ in range(1500):
                at, value = pick.randrange(len(table)), pick.randrange(256)
                for changed in (table[:at] + (value,) + table[at + 1:], table[:at] + table[at + 1:],
                                table[:at] + (value,) + table[at:], table[:at]):
                    told = self.told(reads, changed)
                    if isinstance(told, list) and reads == self.exceptions:
                        self.assertEqual(writes(told), changed)
                    elif isinstance(told, list):
                        self.assertEqual(reads(writes(told)), told)
                    else:
                        self.prefix_is_right(reads, changed, told)

    def prefix_is_right(self, reads, table, at):
        """What is ahead of the first wrong byte may go on: it is wrong only since it ends."""
        told = self.told(reads, table[:at])
        if not isinstance(told, list):
            self.assertEqual(told, at)

    def test_any_bytes(self):
        pick = numbers(15)
        for reads in (self.exceptions, self.lines):
            for _ in range(3000):
                table = tuple([pick.choice((0, 1, 2, 63, 64, 65, 128, 129, 192, 232, 239, 248, pick.randrange(256)))
                               for _ in range(pick.randint(0, 9))])
                told = self.told(reads, table)
                if not isinstance(told, list):
                    self.prefix_is_right(reads, table, told)


class NoCodeTests(unittest.TestCase):
    def test_what_is_no_code(self):
        for thing in [*junk(), None, 1, True, "code", [], (), (128, 1, 2, 0), Code, (lambda: None).__code__]:
            for reads in (exception_rows, line_rows):
                with self.assertRaises(NoCode) as caught:
                    reads(thing)
                self.assertEqual(caught.exception.field, "code")


if __name__ == "__main__":
    unittest.main()
