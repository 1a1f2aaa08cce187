"""same: when two tables are the same, in order and in any, and what is refused."""

import itertools
import random
import unittest

from tablesteps.tables import same
from tests.helper import BETTER_WORDS, Draw, bettered, compared, numbers, question_of, ran, second_same, write

YES, NO, TOO_LONG = [0, 1], [0, 0], [9, 1]


def no_table(which, line):
    return [9, 2, which, line]


class Pairs(unittest.TestCase):
    def both_are(self, table, other, in_order, in_any):
        for one, another in ((table, other), (other, table)):
            self.assertEqual(compared(1, one, another), in_order, (one, another))
            self.assertEqual(compared(0, one, another), in_any, (one, another))
            self.assertEqual(second_same(1, one, another), in_order)
            self.assertEqual(second_same(0, one, another), in_any)


class Columns(Pairs):
    def test_the_same(self):
        self.both_are("a:whole\n", "a:whole\n", YES, YES)
        self.both_are("a:whole,b:text\n", "a:whole,b:text\n", YES, YES)

    def test_other_names(self):
        self.both_are("a:whole\n", "b:whole\n", NO, NO)
        self.both_are("a:whole,b:text\n", "a:whole,c:text\n", NO, NO)
        self.both_are("a:whole\n1\n", "b:whole\n1\n", NO, NO)

    def test_other_sorts(self):
        for sort, another in itertools.combinations(("whole", "fraction", "text", "truth"), 2):
            self.both_are(f"a:{sort}\n", f"a:{another}\n", NO, NO)
            # no cell of theirs differs
            self.both_are(f"a:{sort}\n\n\n", f"a:{another}\n\n\n", NO, NO)
        self.both_are("a:whole\n1\n", "a:fraction\n1/1\n", NO, NO)
        self.both_are('a:whole\n1\n', 'a:text\n"1"\n', NO, NO)
        self.both_are("a:whole\n1\n0\n", "a:truth\ntrue\nfalse\n", NO, NO)

    def test_in_another_order(self):
        self.both_are("a:whole,b:text\n", "b:text,a:whole\n", NO, NO)
        self.both_are('a:whole,b:text\n1,"x"\n', 'b:text,a:whole\n"x",1\n', NO, NO)
        self.both_are("a:whole,b:whole\n1,1\n", "b:whole,a:whole\n1,1\n", NO, NO)

    def test_names_that_change_places(self):
        self.both_are("a:whole,b:text\n", "b:whole,a:text\n", NO, NO)

    def test_more_columns(self):
        self.both_are("a:whole\n", "a:whole,b:whole\n", NO, NO)
        self.both_are("a:whole\n1\n", "a:whole,b:whole\n1,\n", NO, NO)
        many = ",".join(f"c{k}:whole" for k in range(32))
        self.both_are(many + "\n", many + "\n", YES, YES)
        self.both_are(many + "\n", many.replace("c31", "d31") + "\n", NO, NO)


class Rows(Pairs):
    def test_without_rows(self):
        self.both_are("a:whole,b:text\n", "a:whole,b:text\n", YES, YES)
        self.both_are("a:whole\n", "a:whole\n1\n", NO, NO)
        self.both_are("a:whole\n", "a:whole\n\n", NO, NO)

    def test_in_order_and_out_of_order(self):
        self.both_are("a:whole\n1\n2\n", "a:whole\n1\n2\n", YES, YES)
        self.both_are("a:whole\n1\n2\n", "a:whole\n2\n1\n", NO, YES)
        self.both_are('a:whole,b:text\n1,"x"\n2,"y"\n,\n', 'a:whole,b:text\n,\n2,"y"\n1,"x"\n', NO, YES)
        self.both_are("a:whole\n1\n1\n2\n", "a:whole\n1\n2\n1\n", NO, YES)

    def test_as_often(self):
        self.both_are("a:whole\n1\n", "a:whole\n1\n1\n", NO, NO)
        self.both_are("a:whole\n1\n2\n", "a:whole\n1\n2\n2\n", NO, NO)
        self.both_are("a:whole\n1\n1\n2\n", "a:whole\n1\n2\n2\n", NO, NO)
        self.both_are("a:whole\n1\n1\n2\n3\n", "a:whole\n1\n2\n2\n3\n", NO, NO)
        self.both_are("a:whole\n\n\n1\n", "a:whole\n\n1\n1\n", NO, NO)
        self.both_are("a:whole\n1\n1\n", "a:whole\n1\n1\n", YES, YES)

    def test_other_rows(self):
        self.both_are("a:whole\n1\n", "a:whole\n2\n", NO, NO)
        self.both_are("a:whole\n1\n2\n", "a:whole\n1\n3\n", NO, NO)
        self.both_are("a:whole\n1\n2\n", "a:whole\n1\n", NO, NO)

    def test_cells_that_change_places(self):
        self.both_are("a:whole,b:whole\n1,2\n", "a:whole,b:whole\n2,1\n", NO, NO)
        self.both_are("a:whole,b:whole\n1,2\n3,4\n", "a:whole,b:whole\n1,4\n3,2\n", NO, NO)

    def test_rows_that_differ_in_one_cell(self):
        row = ["1", "1/2", '"x"', "true", "-1", "-1/2", '""', "false"]
        others = ["2", "1/3", '"y"', "false", "1", "1/2", '" "', "true"]
        head = "a:whole,b:fraction,c:text,d:truth,e:whole,f:fraction,g:text,h:truth\n"
        table = head + ",".join(row) + "\n"
        self.both_are(table, table, YES, YES)
        for place, cell in itertools.product(range(len(row)), (others, [""] * 8)):
            changed = row[:place] + [cell[place]] + row[place + 1:]
            self.both_are(table, head + ",".join(changed) + "\n", NO, NO)
            self.both_are(table + ",".join(row) + "\n", table + ",".join(changed) + "\n", NO, NO)

    def test_400_rows(self):
        lines = [f"{k % 7},{k}" for k in range(400)]
        head = "a:whole,b:whole\n"
        table = head + question_of(lines)
        mixed = random.Random(3).sample(lines, 400)
        self.both_are(table, table, YES, YES)
        self.both_are(table, head + question_of(mixed), NO, YES)
        self.both_are(table, head + question_of(lines[::-1]), NO, YES)
        self.both_are(table, head + question_of(lines[:399]), NO, NO)
        self.both_are(table, head + question_of(mixed[:399] + mixed[:1]), NO, NO)
        self.both_are(table, head + question_of(lines[1:] + lines[:1]), NO, YES)
        self.both_are(table, head + question_of(lines[:398] + lines[399:] + lines[398:399]), NO, YES)
        alike = head + "1,2\n" * 400
        self.both_are(alike, alike, YES, YES)
        self.both_are(alike, head + "1,2\n" * 399, NO, NO)
        self.both_are(alike, head + "1,2\n" * 399 + "1,\n", NO, NO)


class Cells(Pairs):
    KINDS = {
        "whole": ("0", "1", "-1", "10", "9" * 400, "-" + "9" * 400, "1" + "0" * 399),
        "fraction": ("0/1", "1/1", "1/2", "-1/2", "2/1", "1/3", "9" * 400 + "/1", "1/" + "9" * 400),
        "text": ('""', '" "', '"x"', '"X"', '"xx"', '"\\n"', '"\\\\n"', '"\\""', '"\\\\"', '"none"', '","', '"1"', '"' + "x" * 1000 + '"'),
        "truth": ("true", "false"),
    }

    def test_none_and_every_kind_of_cell(self):
        for sort, cells in self.KINDS.items():
            for one, other in itertools.combinations(("",) + cells, 2):
                self.both_are(f"a:{sort}\n{one}\n", f"a:{sort}\n{other}\n", NO, NO)
                self.both_are(f"a:{sort}\n{one}\n{other}\n", f"a:{sort}\n{other}\n{one}\n", NO, YES)
            for cell in ("",) + cells:
                self.both_are(f"a:{sort}\n{cell}\n", f"a:{sort}\n{cell}\n", YES, YES)

    def test_none_and_an_empty_text(self):
        self.both_are('a:text\n""\n', "a:text\n\n", NO, NO)
        self.both_are('a:text,b:text\n"",\n', 'a:text,b:text\n,""\n', NO, NO)
        self.both_are('a:text,b:text\n,\n', 'a:text,b:text\n,\n', YES, YES)

    def test_none_and_0_and_false(self):
        self.both_are("a:whole,b:truth\n0,false\n", "a:whole,b:truth\n,\n", NO, NO)
        self.both_are("a:whole,b:truth\n0,\n", "a:whole,b:truth\n,false\n", NO, NO)


class Refused(unittest.TestCase):
    def long_table(self, length):
        """A table of so many bytes."""
        rows = ['"' + "x" * 197 + '"'] * 325
        table = "a:text\n" + question_of(rows)
        return table + '"' + "y" * (length - len(table) - 3) + '"\n'

    def test_at_65536_bytes_and_at_65537(self):
        table = self.long_table(65536)
        self.assertEqual(len(table), 65536)
        self.assertEqual(compared(0, table, "a:text\n"), NO)
        self.assertEqual(compared(1, table, "a:text\n"), NO)
        for in_order in (0, 1):
            self.assertEqual(compared(in_order, table, table), YES)
            self.assertEqual(compared(in_order, self.long_table(65537), "a:text\n"), TOO_LONG)
            self.assertEqual(compared(in_order, "a:text\n", self.long_table(65537)), TOO_LONG)
            self.assertEqual(compared(in_order, "x" * 65536, "a:text\n"), no_table(0, 0))
            self.assertEqual(compared(in_order, "x" * 65537, "a:text\n"), TOO_LONG)

    def test_no_table(self):
        good = "a:whole\n1\n2\n"
        for text, line in (("", 0), ("a:whole", 0), ("\n", 0), ("a:whole\n1", 1), ("a:whole\n1\n02\n", 2), ("a:int\n", 0), ("a:whole\n1\n2\nx\n", 3),
                           ("a:whole\n" + "1\n" * 401, 401), ("a:fraction\n2/4\n", 1), ("a:text\n\"\n", 1), ("a:whole,a:whole\n", 0)):
            for in_order in (0, 1):
                self.assertEqual(compared(in_order, text, good), no_table(0, line), text)
                self.assertEqual(compared(in_order, good, text), no_table(1, line), text)
                self.assertEqual(compared(in_order, text, text), no_table(0, line), text)

    def test_the_first_first(self):
        for in_order in (0, 1):
            self.assertEqual(compared(in_order, "a:whole\n1\n02\n", "a:int\n"), no_table(0, 2))
            self.assertEqual(compared(in_order, "a:int\n", "a:whole\n1\n02\n"), no_table(0, 0))

    def test_other_columns_do_not_hide_a_wrong_row(self):
        self.assertEqual(compared(1, "a:whole\n", "b:whole\n02\n"), no_table(1, 1))
        self.assertEqual(compared(0, "a:whole\n02\n", "b:whole\n"), no_table(0, 1))

    def test_the_order_of_refusals(self):
        for in_order in (0, 1):
            self.assertEqual(compared(in_order, "a:int\n" + "x" * 65536, "a:whole\n"), TOO_LONG)
            self.assertEqual(compared(in_order, "x" * 65537, "a:int\n"), TOO_LONG)
            self.assertEqual(compared(in_order, "a:int\n", "x" * 65537), TOO_LONG)


class Drawn(Pairs):
    def test_against_the_second_program(self):
        told = {0: 0, 1: 0}
        for seed in range(1500):
            draw = Draw(seed)
            columns = draw.columns()
            rows = draw.rows(columns, 6)
            others = [list(row) for row in rows]
            if draw.chance(60):
                draw.random.shuffle(others)
            if others and draw.chance(30):
                others[-1] = [draw.cell(sort) for _, sort in columns]
            if others and draw.chance(20):
                others.append(draw.one(*others))
            if others and draw.chance(20):
                others.pop()
            for in_order in (0, 1):
                texts = write(columns, rows), write(columns, others)
                given = compared(in_order, *texts)
                self.assertEqual(given, second_same(in_order, *texts), texts)
                told[given[1]] += 1
        self.assertGreater(min(told.values()), 500)

    def test_wrong_texts(self):
        for seed in range(300):
            draw = Draw(seed)
            texts = []
            for _ in range(2):
                columns = draw.columns()
                text = write(columns, draw.rows(columns, 6))
                place = draw.random.randrange(len(text))
                texts.append(text if draw.chance(40) else text[:place] + draw.one("", ",", "\n", "x", '"', "0") + text[place + 1:])
            for in_order in (0, 1):
                self.assertEqual(compared(in_order, *texts), second_same(in_order, *texts), texts)

    def test_a_table_and_itself(self):
        for seed in range(300):
            columns = Draw(seed).columns()
            text = write(columns, Draw(seed).rows(columns, 9))
            self.both_are(text, text, YES, YES)

    def test_what_run_tells_of_a_question_and_of_its_better_one(self):
        answered = 0
        for seed in range(400):
            draw = Draw(seed, sure=75, words=BETTER_WORDS)
            tables = draw.tables(8)
            texts = [write(*table) for table in tables]
            lines, _ = draw.right_lines([columns for columns, _ in tables], 8)
            told = ran(question_of(lines), *texts)
            if isinstance(told, str):
                answered += 1
                self.both_are(told, ran(bettered(question_of(lines), *texts), *texts), YES, YES)
        self.assertGreater(answered, 300)


class Handed(unittest.TestCase):
    def test_the_lists_are_the_same_afterwards(self):
        table, other = numbers("a:whole\n1\n2\n"), numbers("a:whole\n2\n1\n")
        before = list(table), list(other)
        for in_order, told in ((0, YES), (1, NO), (0, YES), (1, NO)):
            self.assertEqual(same(in_order, table, other), told)
            self.assertEqual((table, other), before)

    def test_one_list_handed_in_twice(self):
        table = numbers("a:whole\n1\n2\n")
        self.assertEqual(same(1, table, table), YES)
        self.assertEqual(same(0, table, table), YES)
        self.assertEqual(table, numbers("a:whole\n1\n2\n"))


if __name__ == "__main__":
    unittest.main()
