"""B1: a table is read as what it was written, and each table has one text."""

import random
import unittest

from tablesteps.reader import TableFault, read_table
from tests.helper import answer, fault, numbers, rows_told, second_reader, write

COLUMNS = [("a", "whole"), ("b", "fraction"), ("c", "text"), ("d", "truth")]
SOME_TABLES = (
    "a:whole,b:text\n1,\"x\"\n2,\"y\"\n3,\"x\"\n,\"y\"\n",
    "a:whole,b:fraction,c:text,d:truth\n-12,-7/12,\"a\\\"b\\\\c\\nd, e\",true\n,,,\n0,0/1,\"\",false\n",
    "t:text,u:text\n\"\\\\\",\",\"\n\"\\\",\",\"\\n\"\n,\n",
    "f:fraction,g:fraction\n1/2,-10/3\n2/1,\n",
    "x_1:truth,whole:whole\ntrue,-1\nfalse,10\n",
)


def table_of(text):
    table = read_table(numbers(text))
    return table.columns, table.rows


def text_cell(text):
    return tuple(text.encode("latin-1"))


class ReadAsWritten(unittest.TestCase):
    def test_the_cells_are_what_was_written(self):
        rows = [
            [12, (7, 12), text_cell('a"b\\c\nd, e'), True],
            [-12, (-7, 12), text_cell(""), False],
            [None, None, None, None],
            [0, (0, 1), text_cell("\\n"), None],
            [10 ** 400 - 1, (1 - 10 ** 400, 10 ** 399), text_cell("\n" * 1000), True],
        ]
        self.assertEqual(table_of(write(COLUMNS, rows)), (COLUMNS, rows))

    def test_truths_are_truths(self):
        rows = table_of("a:truth\ntrue\nfalse\n")[1]
        self.assertIs(rows[0][0], True)
        self.assertIs(rows[1][0], False)

    def test_none_and_an_empty_text_are_two_things(self):
        self.assertEqual(table_of('a:text\n\n""\n')[1], [[None], [()]])

    def test_columns_in_their_order(self):
        self.assertEqual(table_of("b:text,a:truth,c:whole\n"), ([("b", "text"), ("a", "truth"), ("c", "whole")], []))

    def test_a_fault_has_its_line(self):
        with self.assertRaises(TableFault) as caught:
            read_table(numbers("a:whole\n1\n01\n"))
        self.assertEqual(caught.exception.line, 2)


def some_cell(source, sort):
    if source.random() < 0.2:
        return None
    if sort == "whole":
        return source.choice((0, 1, -1, source.randrange(-10 ** 6, 10 ** 6), source.randrange(10 ** 400)))
    if sort == "truth":
        return source.random() < 0.5
    if sort == "text":
        signs = '"\\\nn, x~' * 2 + "abc019:/-"
        return text_cell("".join(source.choice(signs) for _ in range(source.randrange(12))))
    lower = source.randrange(1, 60)
    upper = next(k for k in range(source.randrange(-60, 60), 200) if common(abs(k), lower) == 1)
    return (upper, lower)


def common(one, other):
    return max(k for k in range(1, other + 1) if one % k == 0 and other % k == 0)


def some_table(source):
    sorts = [source.choice(("whole", "fraction", "text", "truth")) for _ in range(source.randrange(1, 7))]
    columns = [(f"c_{k}", sort) for k, sort in enumerate(sorts)]
    rows = [[some_cell(source, sort) for sort in sorts] for _ in range(source.randrange(8))]
    return columns, rows


def changed(source, text):
    """The text with a few bytes put in, taken out or made others."""
    signs = list(text)
    for _ in range(source.randrange(1, 4)):
        place = source.randrange(len(signs) + 1)
        put = source.choice(('"', "\\", "\n", ",", "/", "-", "0", "1", ":", "a", "n", " ", "+", "\0", "\x7f", ""))
        taken = source.randrange(3) if put == "" else source.randrange(2)
        signs[place:place + taken] = [put] if put else []
    return "".join(signs)


class ManyTables(unittest.TestCase):
    def test_written_and_read(self):
        source = random.Random(1)
        for _ in range(400):
            columns, rows = some_table(source)
            text = write(columns, rows)
            self.assertEqual(table_of(text), (columns, rows), text)
            self.assertEqual(answer(text), rows_told(len(rows)), text)

    def test_one_text_each(self):
        source = random.Random(2)
        taken = 0
        for _ in range(4000):
            text = changed(source, write(*some_table(source)))
            try:
                table = table_of(text)
            except TableFault as wrong:
                self.assertEqual(answer(text), fault(wrong.line), text)
                continue
            taken = taken + 1
            self.assertEqual(write(*table), text)
        self.assertGreater(taken, 200)

    def test_the_second_reader_answers_the_same(self):
        source = random.Random(3)
        for _ in range(4000):
            text = changed(source, write(*some_table(source)))
            self.assertEqual(answer(text), second_reader(text), text)

    def test_every_byte_at_every_place(self):
        for text in SOME_TABLES:
            self.assertEqual(answer(text), rows_told(text.count("\n") - 1), text)
            for place in range(len(text)):
                for byte in range(256):
                    other = text[:place] + bytes([byte]).decode("latin-1") + text[place + 1:]
                    self.assertEqual(answer(other), second_reader(other), other)

    def test_every_beginning_and_every_gap(self):
        for text in SOME_TABLES:
            for place in range(len(text)):
                for other in (text[:place], text[:place] + text[place + 1:], text[place:]):
                    self.assertEqual(answer(other), second_reader(other), other)


if __name__ == "__main__":
    unittest.main()
