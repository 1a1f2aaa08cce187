"""The lines of a table: how many, how they end, which one is told, and how long a table is."""

import unittest

from tablesteps.tables import read
from tests.helper import answer, fault, numbers, rows_told

TOO_LONG = [9, 1]


class Lines(unittest.TestCase):
    def test_the_documents_examples(self):
        self.assertEqual(answer('a:whole,b:text\n1,"x"\n2,"y"\n3,"x"\n,"y"\n'), rows_told(4))
        self.assertEqual(answer("a:whole"), fault(0))
        self.assertEqual(answer("a:whole\n1"), fault(1))

    def test_no_bytes(self):
        self.assertEqual(answer(""), fault(0))

    def test_without_rows(self):
        for first in ("a:whole", "a:text,b:truth", "a:fraction,b:whole,c:text,d:truth"):
            self.assertEqual(answer(first + "\n"), rows_told(0))

    def test_bytes_behind_the_last_line_end(self):
        for rest in ("1", " ", "\0", "-", ",", "a:whole", '"x"', "\xff", "\r"):
            self.assertEqual(answer("a:whole\n" + rest), fault(1), rest)
            self.assertEqual(answer("a:whole\n1\n2\n" + rest), fault(3), rest)
            self.assertEqual(answer(rest), fault(0), rest)

    def test_line_ends_of_other_kinds(self):
        self.assertEqual(answer("a:whole\r\n1\r\n"), fault(0))
        self.assertEqual(answer("a:whole\n1\r\n"), fault(1))
        self.assertEqual(answer("a:whole\r1\r"), fault(0))
        self.assertEqual(answer("a:whole\n1\x0b\n"), fault(1))
        self.assertEqual(answer("a:whole\n1\x852\n"), fault(1))

    def test_400_rows_and_401(self):
        for row in ("", "7"):
            for count in (0, 1, 2, 399, 400):
                self.assertEqual(answer("a:whole\n" + f"{row}\n" * count), rows_told(count), count)
            for count in (401, 402, 500, 5000):
                self.assertEqual(answer("a:whole\n" + f"{row}\n" * count), fault(401), count)

    def test_a_row_too_many_and_other_faults(self):
        right = "a:whole\n" + "1\n" * 400
        self.assertEqual(answer(right + "x\n"), fault(401))
        self.assertEqual(answer(right + "x"), fault(401))
        self.assertEqual(answer(right + "1\nx"), fault(401))
        self.assertEqual(answer("a:whole\n" + "1\n" * 399 + "x\n" + "1\n" * 10), fault(400))
        self.assertEqual(answer("a:whole\n" + "1\n" * 399 + "x"), fault(400))
        self.assertEqual(answer("a:bad\n" + "1\n" * 500), fault(0))

    def test_the_first_wrong_line_is_told(self):
        rows = ["1"] * 20
        for first in range(20):
            for second in range(first, 20):
                wrong = list(rows)
                wrong[first] = wrong[second] = "x"
                self.assertEqual(answer("a:whole\n" + "\n".join(wrong) + "\n"), fault(first + 1))
        self.assertEqual(answer("a:int\nx\n"), fault(0))
        self.assertEqual(answer("a:int\n1\nx"), fault(0))
        self.assertEqual(answer("a:whole\n01\n2\nx"), fault(1))
        self.assertEqual(answer("a:whole\n1\n1,2\n+3\n4"), fault(2))

    def test_an_empty_line_at_the_end(self):
        self.assertEqual(answer("a:whole,b:whole\n1,2\n\n"), fault(2))
        self.assertEqual(answer("a:whole\n1\n\n"), rows_told(2))


class Length(unittest.TestCase):
    def right_table(self, length):
        """A table of just so many bytes, of texts."""
        text = "a:text\n"
        while len(text) + 1003 + 3 <= length:
            text = text + '"' + "x" * 1000 + '"\n'
        return text + '"' + "y" * (length - len(text) - 3) + '"\n'

    def test_65536_bytes_and_65537(self):
        for length in (65535, 65536):
            text = self.right_table(length)
            self.assertEqual(len(text), length)
            self.assertEqual(answer(text), rows_told(text.count("\n") - 1))
        for length in (65537, 65538, 66000):
            text = self.right_table(length)
            self.assertEqual(len(text), length)
            self.assertEqual(answer(text), TOO_LONG)

    def test_the_length_before_anything_else(self):
        for byte in (0, 10, 32, 34, 44, 49, 92, 97, 255):
            self.assertEqual(read([byte] * 65537), TOO_LONG)
            self.assertEqual(read([byte] * 66000), TOO_LONG)
            self.assertEqual(read([byte] * 65536), fault(0))
        text = numbers("a:whole\nx\n")
        self.assertEqual(read(text + [10] * (65537 - len(text))), TOO_LONG)
        self.assertEqual(read(text + [10] * (65536 - len(text))), fault(1))

    def test_long_lines(self):
        for byte in (32, 34, 44, 45, 47, 48, 49, 58, 92, 97, 116, 200):
            for first in ("a:whole\n", "a:fraction\n", "a:text\n", "a:truth\n", "a:text,b:text\n"):
                text = numbers(first)
                long = text + [byte] * (65535 - len(text)) + [10]
                self.assertEqual(read(long), fault(1), (byte, first))

    def test_the_largest_table_of_cells(self):
        first = ",".join(f"c{k}:truth" for k in range(32)) + "\n"
        row = ",".join(["true"] * 32) + "\n"
        self.assertEqual(answer(first + row * 400), rows_told(400))


if __name__ == "__main__":
    unittest.main()
