"""The cells of each sort: forms, limits, and what is no such cell."""

import unittest

from tests.helper import answer, fault, rows_told


class OneColumn(unittest.TestCase):
    sort = "whole"

    def told(self, cell):
        # The row stands between two right ones: a wrong one is told by its own line.
        return answer(f"a:{self.sort}\n\n{cell}\n\n")

    def right(self, *cells):
        for cell in cells:
            self.assertEqual(self.told(cell), rows_told(3), cell[:60])

    def wrong(self, *cells):
        for cell in cells:
            self.assertEqual(self.told(cell), fault(2), cell[:60])


class Wholes(OneColumn):
    def test_right(self):
        self.right("", "0", "1", "9", "10", "-1", "-9", "-10", "100", "12345678901234567890", "-98765432109876543210")

    def test_needless_zeros(self):
        self.wrong("00", "01", "-01", "-00", "000", "0" * 400, "01" * 200)

    def test_minus(self):
        self.wrong("-0", "-", "--1", "1-", "1-1", "- 1")

    def test_plus(self):
        self.wrong("+0", "+1", "+", "-+1", "+-1")

    def test_size_below_ten_to_400(self):
        self.right("9" * 400, "-" + "9" * 400, "1" + "0" * 399, "-1" + "0" * 399)
        self.wrong("1" + "0" * 400, "-1" + "0" * 400, "9" * 401, "-" + "9" * 401)

    def test_very_long(self):
        self.wrong("1" * 5000, "1" * 60000, "-" + "1" * 60000, "0" * 60000)

    def test_slash(self):
        self.wrong("1/1", "2/1", "/", "1/", "/1", "0/1", "-1/2")

    def test_other_sorts(self):
        self.wrong("true", "false", '"1"', '""', "none", "a")

    def test_other_forms(self):
        self.wrong("1.0", "1e3", "1_000", "0x1", "1\0", "\xb2", "\xa01", "1'")

    def test_blanks(self):
        self.wrong(" ", " 1", "1 ", "1 2", "\t1", "1\r", "1\t")

    def test_bytes_next_to_the_digits(self):
        self.wrong("/", ":", "1:", "1/", "1:0", "1/0")


class Fractions(OneColumn):
    sort = "fraction"

    def test_right(self):
        self.right("", "0/1", "1/1", "2/1", "-2/1", "1/2", "-1/2", "3/2", "-7/12", "9/10", "1000000007/998244353")

    def test_not_in_lowest_terms(self):
        self.wrong("2/4", "-2/4", "0/2", "0/3", "2/2", "-3/3", "10/5", "6/9", "100/10", "-100/10")

    def test_zero_below(self):
        self.wrong("1/0", "0/0", "-1/0", "2/0", "1/-0", "1/00")

    def test_without_slash(self):
        self.wrong("0", "1", "-1", "12")

    def test_too_many_or_lonely_slashes(self):
        self.wrong("/", "1/", "/1", "/2", "-/1", "1//2", "1/2/3", "1/1/", "//")

    def test_needless_zeros_and_signs(self):
        self.wrong("01/2", "1/02", "-0/1", "00/1", "1/-2", "-1/-2", "+1/2", "1/+2", "--1/2", "-01/2")

    def test_blanks(self):
        self.wrong(" 1/2", "1/2 ", "1 /2", "1/ 2", "- 1/2", " ")

    def test_either_number_below_ten_to_400(self):
        below, ten = "9" * 400, "1" + "0" * 400
        self.right(f"{below}/1", f"-{below}/1", f"1/{below}", f"-1/{below}", f"{below}/1{'0' * 399}")
        self.wrong(f"{ten}/1", f"-{ten}/1", f"1/{ten}", f"-1/{ten}", f"{below}/{ten}", f"{ten}/{below}")

    def test_long_ones_in_lowest_terms_or_not(self):
        one, other = 1, 1
        while other < 10 ** 399:
            one, other = other, one + other
        self.right(f"{one}/{other}", f"-{other}/{one}")
        self.wrong(f"{one * 2}/{other * 2}", f"{-one * 3}/{other * 3}", f"{other}/{other}")

    def test_very_long(self):
        self.wrong("1" * 30000 + "/" + "1" * 30000, "1/" + "1" * 60000)

    def test_other_sorts(self):
        self.wrong("true", '"1/2"', "a/b", "1.5", "1:2")


class Texts(OneColumn):
    sort = "text"

    def test_right(self):
        self.right("", '""', '"x"', '" "', '"a b"', '","', '",,,"', '"1"', '"none"', '"/:-+"', '"true"')

    def test_escapes(self):
        self.right(r'"\""', r'"\\"', r'"\n"', r'"\\n"', r'"\\\""', r'"\\\\"', r'"a\"b\\c\nd"', r'"\",\""')

    def test_another_sign_behind_the_backslash(self):
        for byte in range(256):
            sign = bytes([byte]).decode("latin-1")
            if sign in '"\\n':
                self.right(f'"\\{sign}"')
            elif sign != "\n":
                self.wrong(f'"\\{sign}"')

    def test_every_byte(self):
        for byte in range(256):
            sign = bytes([byte]).decode("latin-1")
            if sign in '"\\' or byte < 32 or byte > 126:
                self.wrong(f'"a{sign}b"', f'"{sign}"')
            else:
                self.right(f'"a{sign}b"', f'"{sign}"')

    def test_without_an_end(self):
        self.wrong('"', '"x', 'x"', r'"\"', r'"x\"', r'"\\\"', '"x,', '"\\', r'"\n')

    def test_bytes_behind_the_end(self):
        self.wrong('"x"y', '"x""', '"x""y"', '""x', '""""', '"x" ', '"x"\\', '"x"1', r'"x\\"y"', '"x"\t')

    def test_bytes_before_the_beginning(self):
        self.wrong(' "x"', 'y"x"', '\\"x"', '1"x"')

    def test_without_quotes(self):
        self.wrong("x", "1", "true", "none", " ", "'x'", "\\", "\\n")

    def test_1000_bytes_and_1001(self):
        self.right('"' + "x" * 1000 + '"', '"' + "x" * 999 + '"')
        self.wrong('"' + "x" * 1001 + '"', '"' + "x" * 5000 + '"')

    def test_the_limit_counts_the_text_itself(self):
        for written in (r"\n", r"\"", r"\\"):
            self.right('"' + written * 1000 + '"', '"' + written * 500 + "x" * 500 + '"')
            self.wrong('"' + written * 1001 + '"', '"' + written * 1000 + 'x"')

    def test_a_line_end_within_quotes_ends_the_line(self):
        self.assertEqual(answer('a:text\n"x\ny"\n'), fault(1))
        self.assertEqual(answer('a:text\n"x"\n"\n"\n'), fault(2))
        self.assertEqual(answer('a:text\n"x\\\ny"\n'), fault(1))


class Truths(OneColumn):
    sort = "truth"

    def test_right(self):
        self.right("", "true", "false")

    def test_wrong(self):
        self.wrong("True", "FALSE", "t", "f", "tru", "truee", "falsee", "fals", "truefalse", "0", "1", '"true"',
                   "none", " true", "true ", "tr ue", "false\r", "not true", "-true", "true/false")


class SeveralCells(unittest.TestCase):
    def test_every_sort_beside_the_others(self):
        first = "a:whole,b:fraction,c:text,d:truth\n"
        rows = ("1,1/2,\"x\",true", "-1,-1/2,\"\",false", ",,,", "0,0/1,\"a,b\",", ",2/1,,true", r'9,,"\",\"\\",false')
        for row in rows:
            self.assertEqual(answer(first + row + "\n"), rows_told(1), row)
        self.assertEqual(answer(first + "\n".join(rows) + "\n"), rows_told(len(rows)))

    def test_a_cell_of_another_sort(self):
        first = "a:whole,b:fraction,c:text,d:truth\n"
        cells = ("1", "1/2", '"x"', "true")
        for place in range(4):
            for cell in cells:
                row = list(cells)
                row[place] = cell
                told = rows_told(1) if cell == cells[place] else fault(1)
                self.assertEqual(answer(first + ",".join(row) + "\n"), told, row)

    def test_too_few_and_too_many_cells(self):
        for sort, cell in (("whole", "1"), ("fraction", "1/2"), ("text", '"x"'), ("truth", "true")):
            for columns in (1, 2, 3, 32):
                first = ",".join(f"c{k}:{sort}" for k in range(columns)) + "\n"
                for count in (1, 2, 3, 4, 31, 32, 33):
                    told = rows_told(1) if count == columns else fault(1)
                    self.assertEqual(answer(first + ",".join([cell] * count) + "\n"), told, (sort, columns, count))
                    self.assertEqual(answer(first + "," * (count - 1) + "\n"), told, (sort, columns, count))

    def test_an_empty_line_is_one_none_and_not_two(self):
        self.assertEqual(answer("a:text\n\n"), rows_told(1))
        self.assertEqual(answer("a:text,b:text\n\n"), fault(1))

    def test_commas_within_quotes_divide_nothing(self):
        self.assertEqual(answer('a:text,b:text\n"x,y"\n'), fault(1))
        self.assertEqual(answer('a:text,b:text\n"x,y","z"\n'), rows_told(1))
        self.assertEqual(answer('a:text\n"x","z"\n'), fault(1))
        self.assertEqual(answer('a:text,b:text\n"x\\",y"\n'), fault(1))
        self.assertEqual(answer('a:text,b:text\n"x\\\\","y"\n'), rows_told(1))
        self.assertEqual(answer('a:text,b:text\n"x\\\\",y"\n'), fault(1))

    def test_quotes_of_a_wrong_cell(self):
        self.assertEqual(answer('a:whole,b:whole\n1",2"\n'), fault(1))
        self.assertEqual(answer('a:text,b:text\nx",","y\n'), fault(1))
        self.assertEqual(answer('a:whole,b:text\n\\,"y"\n'), fault(1))

    def test_blanks_around_commas(self):
        for row in ("1 ,2", "1, 2", " 1,2", "1,2 ", " ,", ", ", "1,2\r"):
            self.assertEqual(answer(f"a:whole,b:whole\n{row}\n"), fault(1), row)


del OneColumn

if __name__ == "__main__":
    unittest.main()
