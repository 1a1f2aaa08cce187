"""The first line of a table: names, sorts, how many."""

import unittest

from tests.helper import WORDS, answer, fault, rows_told


class Names(unittest.TestCase):
    def right(self, name):
        self.assertEqual(answer(f"{name}:whole\n7\n"), rows_told(1), name)

    def wrong(self, name):
        self.assertEqual(answer(f"{name}:whole\n7\n"), fault(0), name)

    def test_letters_digits_and_underlines(self):
        for name in ("a", "z", "ab", "a0", "z9", "a_", "a__b", "sum_of", "x1y2_3"):
            self.right(name)

    def test_every_letter_begins_a_name(self):
        for letter in "abcdefghijklmnopqrstuvwxyz":
            self.right(letter)
            self.right("q" + letter)

    def test_31_bytes_and_32(self):
        self.right("n" * 31)
        self.wrong("n" * 32)
        self.right("n" + "_" * 30)
        self.wrong("n" + "0" * 31)

    def test_listed_words_are_no_names(self):
        self.assertEqual(len(WORDS), 38)
        for word in WORDS:
            self.wrong(word)
            self.right(word + "s_")
            self.right("x" + word)

    def test_words_of_sorts_are_names(self):
        for word in ("whole", "fraction", "text", "truth"):
            self.right(word)

    def test_wrong_beginnings(self):
        for name in ("", "_", "_a", "0", "9a", "A", "-", " ", "\t", "{", "`"):
            self.wrong(name)

    def test_every_byte_within_a_name(self):
        allowed = "abcdefghijklmnopqrstuvwxyz0123456789_"
        for byte in range(256):
            sign = bytes([byte]).decode("latin-1")
            told = rows_told(1) if sign in allowed else fault(0)
            if sign != "\n":
                self.assertEqual(answer(f"a{sign}b:whole\n7\n"), told, byte)


class Sorts(unittest.TestCase):
    def test_wrong_words(self):
        wrong = ("", "int", "wholes", "whol", "Whole", "WHOLE", "none", "number", "truth ",
                 " truth", "te xt", "text:", "fraction/", "true", "texttext", '"text"', "tex\0t")
        for word in wrong:
            self.assertEqual(answer(f"a:{word}\n"), fault(0), word)

    def test_right_words(self):
        for word in ("whole", "fraction", "text", "truth"):
            self.assertEqual(answer(f"a:{word}\n"), rows_told(0), word)
            self.assertEqual(answer(f"a:{word}\n\n"), rows_told(1), word)


class FirstLine(unittest.TestCase):
    def test_without_a_colon(self):
        for line in ("a", "whole", "awhole", "a whole", "a=whole", "a,whole", "a:whole,b", "b,a:whole"):
            self.assertEqual(answer(line + "\n"), fault(0), line)

    def test_too_many_colons(self):
        for line in ("a::whole", "a:whole:", ":a:whole", "a:whole:whole", "a:whole:b:whole"):
            self.assertEqual(answer(line + "\n"), fault(0), line)

    def test_empty(self):
        for text in ("\n", "\n\n", "\n1\n", "\na:whole\n1\n"):
            self.assertEqual(answer(text), fault(0), text)

    def test_commas_that_divide_nothing(self):
        for line in (",", "a:whole,", ",a:whole", "a:whole,,b:whole"):
            self.assertEqual(answer(line + "\n"), fault(0), line)

    def test_blanks(self):
        for line in (" a:whole", "a :whole", "a: whole", "a:whole ", "a:whole, b:whole", "a:whole ,b:whole",
                     "a:whole\r", "\ta:whole"):
            self.assertEqual(answer(line + "\n"), fault(0), line)

    def test_32_columns_and_33(self):
        columns = [f"c{k}:whole" for k in range(33)]
        cells = [str(k) for k in range(33)]
        for count, told in ((1, rows_told(1)), (31, rows_told(1)), (32, rows_told(1)), (33, fault(0))):
            text = ",".join(columns[:count]) + "\n" + ",".join(cells[:count]) + "\n"
            self.assertEqual(answer(text), told, count)

    def test_two_columns_of_one_name(self):
        for line in ("a:whole,a:whole", "a:whole,a:text", "a:text,b:whole,a:truth", "b:text,a:text,a:text"):
            self.assertEqual(answer(line + "\n"), fault(0), line)
        self.assertEqual(answer("a:whole,aa:whole,a_:whole,b:whole\n"), rows_told(0))

    def test_the_last_of_32_is_an_earlier_name(self):
        columns = ",".join(f"c{k}:whole" for k in range(31))
        self.assertEqual(answer(f"{columns},c30:whole\n"), fault(0))
        self.assertEqual(answer(f"{columns},c0:whole\n"), fault(0))
        self.assertEqual(answer(f"{columns},c31:whole\n"), rows_told(0))


if __name__ == "__main__":
    unittest.main()
