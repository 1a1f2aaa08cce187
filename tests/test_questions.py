"""Questions: their lines, steps that follow one another, the first step that isn't right, and what is refused first."""

import unittest

from tablesteps.tables import judge
from tests.helper import judged, numbers, second_judge, wrong

TABLE = "a:whole,b:text\n1,\"x\"\n2,\"y\"\n3,\"x\"\n,\"y\"\n"
COLUMNS = "a:whole,b:text"
TOO_LONG = [9, 1]


def no_table(which, line):
    return [9, 2, which, line]


class Example(unittest.TestCase):
    def test_the_documents_example(self):
        for line, told in (
                ("group b: sum a as s, rows as n", "b:text,s:whole,n:whole"), ("where a < 3", COLUMNS),
                ("window b by a: number as k", COLUMNS + ",k:whole"), ("order a down", COLUMNS),
                ("group: mean a as m", "m:fraction"), ("with c = a / 2", COLUMNS + ",c:fraction"), ("order a\nwhere b == \"x\"", COLUMNS),
                ("keep b as c\nwhere c == \"x\"", "c:text"), ("where", wrong(0, 1)), ("with a = 1", wrong(0, 4)),
                ("with c = 1", COLUMNS + ",c:whole"), ("where a < \"x\"", wrong(0, 3))):
            self.assertEqual(judged(line + "\n", TABLE), told, line)
        self.assertEqual(judged("distinct", TABLE), wrong(0, 1))
        self.assertEqual(judged("", TABLE), COLUMNS)
        self.assertEqual(judged("", "a:whole"), no_table(0, 0))
        self.assertEqual(judged("", "a:whole\n1"), no_table(0, 1))

    def test_the_columns_line_with_its_end(self):
        line = numbers(COLUMNS + "\n")
        self.assertEqual(judge(1, [], [numbers(TABLE)]), [0, len(line)] + line)


class Following(unittest.TestCase):
    def test_what_an_earlier_step_made(self):
        for question, told in (
                ("with c = a + 1\nwith d = c * c\nwhere d < 9", "a:whole,b:text,c:whole,d:whole"),
                ("with c = a / 1\nkeep c as a, a as c\nwith d = a\nwith e = c", "a:fraction,c:whole,d:fraction,e:whole"),
                ("group b: sum a as s\nwith m = s + 1\norder m down", "b:text,s:whole,m:whole"),
                ("window b by a: number as k\nwhere k == 1\nkeep b", "b:text"),
                ("join 0 on a = a take b as c\nwhere b == c", "a:whole,b:text,c:text"),
                ("keep a as b, b as a\nwhere a == \"x\" and b == 1", "b:whole,a:text"),
                ("keep b\nwith a = length b", "b:text,a:whole"), ("keep b as x\nwith b = x\nplus 0", wrong(2, 3)),
                ("keep b as x, a as y\nkeep y, x\nplus 0", "y:whole,x:text"), ("group b: mean a as a\nplus 0", wrong(1, 3)),
                ("group: rows as n\ngroup n: rows as m", "n:whole,m:whole"), ("distinct\npart 1 2\nminus 0", COLUMNS),
                ("keep b\njoin 0 on b = b take a", "b:text,a:whole"), ("group b\nwindow: number as a", "b:text,a:whole")):
            self.assertEqual(judged(question + "\n", TABLE), told, question)
            self.assertEqual(second_judge(question + "\n", TABLE), told, question)

    def test_what_an_earlier_step_left_out_or_renamed(self):
        for question, told in (
                ("keep a\nwhere b == \"x\"", wrong(1, 2)), ("keep b as c\nwhere b == \"x\"", wrong(1, 2)), ("keep a as b\norder a", wrong(1, 2)),
                ("group b\nwhere a < 1", wrong(1, 2)), ("group b: sum a as s\nkeep a", wrong(1, 2)), ("keep a\ndistinct\nkeep a, b", wrong(2, 2)),
                ("keep a\njoin 0 on b = b", wrong(1, 2)), ("keep a\nwindow b: number as n", wrong(1, 2)), ("keep a\nplus 0", wrong(1, 3)),
                ("keep a as b, b as a\nplus 0", "b:whole,a:text"), ("keep b, a\nplus 0", wrong(1, 3)),
                ("with c = a\nwith c = b", wrong(1, 4)), ("with c = a\nkeep a, b\nwith c = b", "a:whole,b:text,c:text")):
            self.assertEqual(judged(question + "\n", TABLE), told, question)
            self.assertEqual(second_judge(question + "\n", TABLE), told, question)

    def test_table_k_is_as_it_was_handed_in(self):
        self.assertEqual(judged("keep a as x\njoin 0 on x = x\n", TABLE), wrong(1, 2))
        self.assertEqual(judged("with c = a\njoin 0 on a = a take c as d\n", TABLE), wrong(1, 2))
        self.assertEqual(judged("with c = a\nplus 0\n", TABLE), wrong(1, 3))

    def test_a_refused_step_makes_nothing(self):
        self.assertEqual(judged("with c = zz\nwith d = c\n", TABLE), wrong(0, 2))


class FirstStep(unittest.TestCase):
    WRONG = {1: "where", 2: "keep zz", 3: "where a", 4: "with a = 1"}

    def test_each_rule_at_each_place(self):
        for rule, line in self.WRONG.items():
            for place in range(6):
                lines = ["distinct"] * 6
                lines[place] = line
                self.assertEqual(judged("\n".join(lines) + "\n", TABLE), wrong(place, rule))

    def test_the_first_is_told_whatever_its_rule(self):
        for first, one in self.WRONG.items():
            for second, other in self.WRONG.items():
                self.assertEqual(judged(f"distinct\n{one}\n{other}\n", TABLE), wrong(1, first))
                self.assertEqual(judged(f"{one}\ndistinct\n{other}\n", TABLE), wrong(0, first))
                self.assertEqual(judged(f"{one}\n{other}", TABLE), wrong(0, first))


class HowManyLines(unittest.TestCase):
    def test_no_lines(self):
        self.assertEqual(judged("", TABLE), COLUMNS)
        self.assertEqual(judged("", "z:truth\n", TABLE), "z:truth")

    def test_40_lines_and_41(self):
        for line in ("distinct", "order a", "part 0 1"):
            for count in (1, 2, 39, 40):
                self.assertEqual(judged(f"{line}\n" * count, TABLE), COLUMNS, count)
            for count in (41, 42, 80, 1000):
                self.assertEqual(judged(f"{line}\n" * count, TABLE), wrong(40, 1), count)

    def test_a_wrong_line_ahead_of_and_behind_the_40th(self):
        for rule, line in FirstStep.WRONG.items():
            for place in (0, 5, 38, 39):
                for count in (40, 41, 50):
                    lines = ["distinct"] * count
                    lines[place] = line
                    self.assertEqual(judged("\n".join(lines) + "\n", TABLE), wrong(place, rule))
            for place in (40, 41, 49):
                lines = ["distinct"] * 50
                lines[place] = line
                self.assertEqual(judged("\n".join(lines) + "\n", TABLE), wrong(40, 1))

    def test_bytes_behind_the_last_line_end(self):
        for rest in ("distinct", " ", "x", "\0", "where", "keep zz", "where a", "\xff", "with a = 1"):
            for count in (0, 1, 5, 39, 40):
                self.assertEqual(judged("distinct\n" * count + rest, TABLE), wrong(count, 1), (count, rest))
            for count in (41, 60):
                self.assertEqual(judged("distinct\n" * count + rest, TABLE), wrong(40, 1), (count, rest))

    def test_empty_lines_count(self):
        self.assertEqual(judged("\n", TABLE), wrong(0, 1))
        self.assertEqual(judged("\n" * 41, TABLE), wrong(0, 1))
        self.assertEqual(judged("distinct\n" * 40 + "\n", TABLE), wrong(40, 1))


class Refusals(unittest.TestCase):
    def right_question(self, length):
        return "distinct" + " " * (length - 9) + "\n"

    def right_table(self, length):
        text = "a:text\n"
        while len(text) + 1003 + 3 <= length:
            text = text + '"' + "x" * 1000 + '"\n'
        return text + '"' + "y" * (length - len(text) - 3) + '"\n'

    def test_a_question_of_65536_bytes_and_of_65537(self):
        self.assertEqual(judged(self.right_question(65536), TABLE), COLUMNS)
        for question in (self.right_question(65537), self.right_question(66000), "x" * 65537, "\n" * 65537, "where\n" + " " * 65531):
            self.assertEqual(judged(question, TABLE), TOO_LONG)
        self.assertEqual(judged("x" * 65536, TABLE), wrong(0, 1))
        self.assertEqual(judged("\n" * 65536, TABLE), wrong(0, 1))
        self.assertEqual(judged("distinct\n" + "x" * 65527, TABLE), wrong(1, 1))

    def test_a_table_of_65536_bytes_and_of_65537(self):
        self.assertEqual(judged("", self.right_table(65536)), "a:text")
        self.assertEqual(judged("", self.right_table(65537)), TOO_LONG)
        self.assertEqual(judged("", TABLE, self.right_table(65536)), COLUMNS)
        self.assertEqual(judged("", TABLE, self.right_table(65537)), TOO_LONG)
        self.assertEqual(judged("where\n", "x", "y" * 65537), TOO_LONG)
        self.assertEqual(judged("where\n", "x", "y" * 65536), no_table(0, 0))

    def test_how_many_tables(self):
        self.assertEqual(judged("distinct\n"), TOO_LONG)
        self.assertEqual(judged(""), TOO_LONG)
        self.assertEqual(judged("where\n"), TOO_LONG)
        for count in range(1, 9):
            self.assertEqual(judged("distinct\n", *[TABLE] * count), COLUMNS)
            self.assertEqual(judged(f"plus {count - 1}\n", *[TABLE] * count), COLUMNS)
            self.assertEqual(judged(f"plus {count}\n", *[TABLE] * count), wrong(0, 2))
        self.assertEqual(judged("distinct\n", *[TABLE] * 9), TOO_LONG)
        self.assertEqual(judged("where\n", *["x"] * 9), TOO_LONG)
        self.assertEqual(judged("where\n", *["x"] * 8), no_table(0, 0))

    def test_the_first_text_that_is_no_table(self):
        faults = {"": 0, "a:whole": 0, "x\n": 0, "a:whole\n1": 1, "a:whole\nx\n": 1, "a:whole\n1\n2\n03\n": 3,
                  "a:whole\n" + "1\n" * 401: 401}
        for text, line in faults.items():
            for count in (1, 2, 8):
                for which in range(count):
                    tables = [TABLE] * count
                    tables[which] = text
                    self.assertEqual(judged("distinct\n", *tables), no_table(which, line))
            self.assertEqual(judged("distinct\n", TABLE, text, "", "x"), no_table(1, line))

    def test_no_table_ahead_of_a_step_that_is_not_right(self):
        for line in FirstStep.WRONG.values():
            self.assertEqual(judged(line + "\n", TABLE, "a:whole\n02\n"), no_table(1, 1))
            self.assertEqual(judged(line + "\n", "a:whole\n02\n", TABLE), no_table(0, 1))
            self.assertEqual(judged(line, TABLE, ""), no_table(1, 0))

    def test_each_ahead_of_the_next(self):
        long = "where\n" + " " * 65531
        self.assertEqual(judged(long, ""), TOO_LONG)
        self.assertEqual(judged(long), TOO_LONG)
        self.assertEqual(judged(long[:-1], ""), no_table(0, 0))
        self.assertEqual(judged(long[:-1], TABLE), wrong(0, 1))


class ManyRows(unittest.TestCase):
    def test_rows_change_no_columns(self):
        for rows in ("", "1,\"x\"\n", ",\n" * 400, TABLE.split("\n", 1)[1]):
            self.assertEqual(judged("plus 0\njoin 0 on a = a take b as c\n", COLUMNS + "\n" + rows), COLUMNS + ",c:text")

    def test_too_large_is_nothing_for_judge(self):
        nines = "9" * 400
        self.assertEqual(judged(f"with n = {nines} * {nines} + a\n", TABLE), COLUMNS + ",n:whole")
        self.assertEqual(judged("plus 0\n" * 20, COLUMNS + "\n" + ",\n" * 400), COLUMNS)


if __name__ == "__main__":
    unittest.main()
