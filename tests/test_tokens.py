"""A line's tokens: words, numbers, texts, signs, blanks, and what makes a line not right."""

import unittest

from tests.helper import judged, second_judge, wrong

TABLE = "a:whole,b:fraction,c:text,d:truth\n"
COLUMNS = TABLE[:-1]
NOT_A_STEP = wrong(0, 1)

LINES = (
    ("where", "a", "<=", "1/2"), ("where", "(", "d", "else", "true", ")"), ("keep", "a", "as", "x", ",", "b"),
    ("with", "n", "=", "-", "a", "*", "2"), ("with", "n", "=", "c", "++", '"x y"'),
    ("left", "join", "0", "on", "a", "=", "a", ",", "b", "=", "b", "take", "c", "as", "e"),
    ("group", "a", ",", "b", ":", "rows", "as", "n", ",", "sum", "a", "as", "s"), ("order", "a", "down", ",", "b"),
    ("part", "0", "12"), ("distinct",), ("plus", "0"), ("minus", "0"),
    ("window", "a", "by", "b", "down", ":", "number", "as", "n", ",", "before", "c", "as", "e"),
    ("where", "if", "d", "then", "a", "==", "1", "else", "none", "c"),
)


def where(expression):
    return judged(f"where {expression}\n", TABLE)


def value(expression):
    """The sort of an expression, or the refusal."""
    told = judged(f"with n = {expression}\n", TABLE)
    return told.removeprefix(COLUMNS + ",n:") if isinstance(told, str) else told


def wordlike(token):
    return token[0].isalnum() or token[0] == "_"


class Blanks(unittest.TestCase):
    def test_any_number_of_blanks(self):
        for tokens in LINES:
            told = judged(" ".join(tokens) + "\n", TABLE)
            self.assertIsInstance(told, str, tokens)
            for blanks in (" ", "  ", " " * 500):
                for before in ("", blanks):
                    for behind in ("", blanks):
                        line = before + blanks.join(tokens) + behind + "\n"
                        self.assertEqual(judged(line, TABLE), told, tokens)

    def test_none_where_none_is_needed(self):
        for tokens in LINES:
            line = tokens[0]
            for last, token in zip(tokens, tokens[1:]):
                line += (" " if wordlike(last) and wordlike(token) else "") + token
            self.assertEqual(judged(line + "\n", TABLE), judged(" ".join(tokens) + "\n", TABLE), line)

    def test_words_that_run_together(self):
        for line in ("wherea", "whered", "where d andd", "where dand d", "keepa", "group a:rows asn", "part01", "plus0",
                     "minus0", "distinctdistinct", "leftjoin 0 on a=a", "order adown", "window:numberas n", "where notd",
                     "with n=lengthc", "where nonec"):
            told = judged(line + "\n", TABLE)
            self.assertIn(told, (NOT_A_STEP, wrong(0, 2)), line)
            self.assertEqual(told, second_judge(line + "\n", TABLE), line)

    def test_a_number_ends_where_its_digits_do(self):
        self.assertEqual(where("if d then a==1else a==2"), COLUMNS)
        self.assertEqual(where("if a<1/2then d else d"), COLUMNS)
        self.assertEqual(judged("join 0on a=a\n", TABLE), COLUMNS)
        self.assertEqual(judged("join 0on a=a take c as x\n", TABLE), COLUMNS + ",x:text")
        self.assertEqual(value("1a"), NOT_A_STEP)
        self.assertEqual(value("1_"), NOT_A_STEP)

    def test_a_text_needs_no_blank(self):
        self.assertEqual(where('if"x"==c then"x"<c else"y"=="y"'), COLUMNS)

    def test_other_blanks_belong_to_nothing(self):
        for blank in "\t\r\x0b\x0c\0\xa0\x85":
            self.assertEqual(judged(f"where{blank}d\n", TABLE), NOT_A_STEP)
            self.assertEqual(judged(f"distinct{blank}\n", TABLE), NOT_A_STEP)
            self.assertEqual(judged(f"{blank}distinct\n", TABLE), NOT_A_STEP)


class Bytes(unittest.TestCase):
    def test_every_byte_behind_a_name(self):
        for byte in range(256):
            sign = chr(byte)
            if sign == "\n":
                continue
            told = value("a" + sign)
            if sign == " ":
                self.assertEqual(told, "whole")
            elif sign in "abcdefghijklmnopqrstuvwxyz0123456789_":
                # "as" is a word that no column may be called by
                self.assertEqual(told, NOT_A_STEP if sign == "s" else wrong(0, 2), sign)
            else:
                self.assertEqual(told, NOT_A_STEP, byte)

    def test_every_byte_by_itself(self):
        for byte in range(256):
            if byte != 10:
                self.assertEqual(judged(chr(byte) + "\n", TABLE), NOT_A_STEP, byte)
                self.assertEqual(judged("distinct " + chr(byte) + "\n", TABLE), "a:whole,b:fraction,c:text,d:truth"
                                 if byte == 32 else NOT_A_STEP, byte)

    def test_every_byte_between_two_names(self):
        right = {"+": "fraction", "-": "fraction", "*": "fraction", "/": "fraction", "<": "truth",
                 "_": wrong(0, 2), "=": NOT_A_STEP}
        for byte in range(256):
            sign = chr(byte)
            if sign in "\n":
                continue
            told = value(f"a{sign}b")
            if sign in right:
                self.assertEqual(told, right[sign], sign)
            elif sign.isascii() and (sign.isdigit() or sign.islower()):
                self.assertEqual(told, wrong(0, 2), sign)
            else:
                self.assertEqual(told, NOT_A_STEP, byte)


class Words(unittest.TestCase):
    def test_words_go_over_into_digits_and_underlines(self):
        for name in ("n1", "n_", "n_1", "n1a", "n__", "x9_y8", "whole", "text", "where1", "as_", "true0", "not_"):
            self.assertEqual(judged(f"with {name} = a\nkeep {name}\n", TABLE), f"{name}:whole")
        for name in ("1n", "_n", "N", "nN", "n-1", "n.x", "n$", "1", "", "\xe9"):
            self.assertEqual(judged(f"with {name} = a\n", TABLE), NOT_A_STEP, name)

    def test_a_step_begins_with_its_word(self):
        for line in ("Where d", "WHERE d", "wher d", "wheres d", "where1 d", "select a", "a", "1", '"where" d', "(where d)",
                     "as a", "by a", "on a", "take a", "rows as n", "else d", "d", "join", "true", "= a", ", a"):
            self.assertEqual(judged(line + "\n", TABLE), NOT_A_STEP, line)


class Signs(unittest.TestCase):
    def test_the_longest_sign(self):
        for expression in ("a==a", "a<=a", "a<a", "a== a", "a <=a", "(a)==(a)", "(a)<=(a)"):
            self.assertEqual(where(expression), COLUMNS, expression)
        for expression in ("a= =a", "a=a", "a===a", "a====a", "a< =a", "a=<a", "a<==a", "a<<a", "a<>a", "a!=a", "a>a",
                           "a>=a", "a=>a", "a< <a"):
            self.assertEqual(where(expression), NOT_A_STEP, expression)

    def test_plus_and_plus_plus(self):
        self.assertEqual(value("a+a"), "whole")
        self.assertEqual(value("c++c"), "text")
        self.assertEqual(value("c++c++c"), "text")
        self.assertEqual(value("a++a"), wrong(0, 3))
        self.assertEqual(value("c+c"), wrong(0, 3))
        for expression in ("a+ +a", "c+ +c", "c+++c", "c++ ++c", "c++++c", "+a", "++c", "a+", "c++"):
            self.assertEqual(value(expression), NOT_A_STEP, expression)

    def test_minus_signs_are_single(self):
        for expression in ("a--a", "a- -a", "a---a", "--a", "- - -a", "a*-a", "a/-a", "a+-a", "a<-a"):
            self.assertEqual(value(expression), "fraction" if "/" in expression else
                             "truth" if "<" in expression else "whole", expression)

    def test_the_sign_of_with_and_pairs(self):
        self.assertEqual(judged("with n=a\n", TABLE), COLUMNS + ",n:whole")
        self.assertEqual(judged("with n=(a==a)\n", TABLE), COLUMNS + ",n:truth")
        self.assertEqual(judged("with n==a\n", TABLE), NOT_A_STEP)
        self.assertEqual(judged("with n= =a\n", TABLE), NOT_A_STEP)
        self.assertEqual(judged("with n<=a\n", TABLE), NOT_A_STEP)
        self.assertEqual(judged("with n:a\n", TABLE), NOT_A_STEP)
        self.assertEqual(judged("join 0 on a==a\n", TABLE), NOT_A_STEP)
        self.assertEqual(judged("join 0 on a=a\n", TABLE), COLUMNS)

    def test_multiplication_signs_are_single(self):
        self.assertEqual(value("a*a/a*a"), "fraction")
        for expression in ("a**a", "a* *a", "a//a", "a/ /a", "*a", "/a", "a*", "a/"):
            self.assertEqual(value(expression), NOT_A_STEP, expression)


class Numbers(unittest.TestCase):
    def test_wholes_and_fractions(self):
        for number in ("0", "1", "7", "10", "100", "9999", "10000", "123456789012345678901234567890"):
            self.assertEqual(value(number), "whole", number)
        for number in ("0/1", "1/1", "1/2", "7/3", "10/1", "1/10", "100/101", "12345678901234567890/7"):
            self.assertEqual(value(number), "fraction", number)

    def test_needless_noughts(self):
        for number in ("00", "01", "007", "01/2", "1/02", "00/1", "0/01", "1/00", "0" * 50, "1 + 00"):
            self.assertEqual(value(number), NOT_A_STEP, number)

    def test_not_in_lowest_terms_and_nought_below(self):
        for number in ("2/2", "2/4", "0/2", "10/5", "6/4", "100/10", "1/0", "0/0", "7/0"):
            self.assertEqual(value(number), NOT_A_STEP, number)
            self.assertEqual(value("a + " + number), NOT_A_STEP, number)
            self.assertEqual(value("-" + number), NOT_A_STEP, number)

    def test_a_stroke_with_and_without_a_digit_behind(self):
        for expression in ("2 /4", "2/ 4", "2 / 4", "6/(4)", "6 /4", "1/ 0", "1/a", "2/(2)", "2/-2", "1/2/2", "1/2/3/2/5"):
            self.assertEqual(value(expression), "fraction", expression)
        # from the left, 2/4 and 4/2 are numbers here, which aren't in lowest terms
        for expression in ("1 / 2/4", "a/2/4", "1/2/4/2", "1/2 / 4/2"):
            self.assertEqual(value(expression), NOT_A_STEP, expression)
        self.assertEqual(value("1/"), NOT_A_STEP)
        self.assertEqual(value("1//2"), NOT_A_STEP)
        self.assertEqual(value("1/ /2"), NOT_A_STEP)

    def test_other_forms(self):
        for number in ("1.5", "1e3", "1_000", "0x10", "+1", "1,000", ".5", "1.", "\xb2", "1 2", "1/2 3"):
            self.assertEqual(value(number), NOT_A_STEP, number)

    def test_400_digits_and_401(self):
        for digit in "19":
            self.assertEqual(value(digit * 400), "whole")
            self.assertEqual(value(digit * 401), NOT_A_STEP)
        self.assertEqual(value("1" + "0" * 399), "whole")
        self.assertEqual(value("1" + "0" * 400), NOT_A_STEP)
        self.assertEqual(value("9" * 400 + "/1"), "fraction")
        self.assertEqual(value("9" * 401 + "/1"), NOT_A_STEP)
        self.assertEqual(value("1/" + "9" * 400), "fraction")
        self.assertEqual(value("1/" + "9" * 401), NOT_A_STEP)
        self.assertEqual(value("9" * 399 + "8/" + "9" * 400), "fraction")
        self.assertEqual(value("-" + "9" * 400), "whole")
        self.assertEqual(value("1" * 60000), NOT_A_STEP)
        self.assertEqual(value("1/" + "1" * 60000), NOT_A_STEP)


class Texts(unittest.TestCase):
    def test_right_texts(self):
        for text in ('""', '"x"', '" "', '"where"', '"a,b:c"', r'"\""', r'"\\"', r'"\n"', r'"\\\""', r'"\\n"',
                     r'"x\"y\\z\nw"', '"%"', '"~"', '"!"', "\"'\"", '"\\\\\\\\"'):
            self.assertEqual(value(text), "text", text)

    def test_without_its_end(self):
        for text in ('"', '"x', 'c ++ "', r'"\"', r'"\\\"', '"x" ++ "y', '"""', r'"x\\""', '"\\'):
            self.assertEqual(value(text), NOT_A_STEP, text)

    def test_a_line_end_ends_a_text_too(self):
        self.assertEqual(value('"x\ny"'), NOT_A_STEP)
        self.assertEqual(judged('distinct\nwith n = "x\ny"\n', TABLE), wrong(1, 1))

    def test_every_byte_behind_a_backslash(self):
        for byte in range(256):
            if byte != 10:
                for before, behind in (('"', '"'), ('"x', 'y"')):
                    told = value(before + "\\" + chr(byte) + behind)
                    self.assertEqual(told, "text" if chr(byte) in '\\n"' else NOT_A_STEP, byte)

    def test_every_byte_within(self):
        for byte in range(256):
            if byte != 10:
                right = 32 <= byte <= 126 and chr(byte) not in '"\\'
                self.assertEqual(value(f'"x{chr(byte)}y"'), "text" if right else NOT_A_STEP, byte)

    def test_1000_bytes_and_1001(self):
        for part in ("x", " ", r"\n", r"\\", r"\""):
            self.assertEqual(value('"' + part * 1000 + '"'), "text", part)
            self.assertEqual(value('"' + part * 1001 + '"'), NOT_A_STEP, part)
        self.assertEqual(value('"' + "x" * 60000 + '"'), NOT_A_STEP)

    def test_texts_side_by_side(self):
        self.assertEqual(value('"x""y"'), NOT_A_STEP)
        self.assertEqual(value('"x"++"y"'), "text")
        self.assertEqual(value('c"x"'), NOT_A_STEP)


class HowMany(unittest.TestCase):
    def test_80_tokens_and_81(self):
        # where, then 2k + 1 tokens
        for sign, name in (("or", "d"), ("and", "d")):
            for k in range(36, 43):
                told = where(f" {sign} ".join([name] * (k + 1)))
                self.assertEqual(told, COLUMNS if 2 * k + 2 <= 80 else NOT_A_STEP, k)
        # with n =, then k + 1 tokens
        for k in range(70, 85):
            told = value("-" * k + "a")
            self.assertEqual(told, "whole" if k + 4 <= 80 else NOT_A_STEP, k)

    def test_tokens_of_steps_without_expressions(self):
        for count in range(36, 46):
            keys = ",".join(["a"] * count)
            self.assertEqual(judged(f"order {keys}\n", TABLE), COLUMNS if 2 * count <= 80 else NOT_A_STEP)
            keys = ",".join(["a"] * (count - 1) + ["a down"])
            self.assertEqual(judged(f"order {keys}\n", TABLE), COLUMNS if 2 * count + 1 <= 80 else NOT_A_STEP)
            pairs = ",".join(["a=a"] * (count // 2))
            self.assertEqual(judged(f"join 0 on {pairs}\n", TABLE),
                             COLUMNS if 2 + count // 2 * 4 <= 80 else NOT_A_STEP)

    def test_what_would_be_told_without_the_limit(self):
        # rule 2 and 3 come behind rule 1
        self.assertEqual(where(" or ".join(["zz"] * 40)), wrong(0, 2))
        self.assertEqual(where(" or ".join(["zz"] * 41)), NOT_A_STEP)
        self.assertEqual(where("not " + " or ".join(["a"] * 40)), NOT_A_STEP)
        self.assertEqual(where(" or ".join(["a"] * 40)), wrong(0, 3))

    def test_a_token_counts_once_however_long(self):
        self.assertEqual(where(" or ".join(['c == "' + "x" * 900 + '"'] * 20)), COLUMNS)
        self.assertEqual(where(" or ".join(["a < " + "7" * 400] * 20)), COLUMNS)

    def test_very_many(self):
        self.assertEqual(where("(" * 60000), NOT_A_STEP)
        self.assertEqual(where("- " * 30000 + "a"), NOT_A_STEP)
        self.assertEqual(where("not " * 15000 + "d"), NOT_A_STEP)
        self.assertEqual(where("d" + " or d" * 10000), NOT_A_STEP)
        self.assertEqual(judged("x" * 65535 + "\n", TABLE), NOT_A_STEP)
        self.assertEqual(judged(" " * 65527 + "distinct\n", TABLE), COLUMNS)


class EmptyLines(unittest.TestCase):
    def test_empty_lines_are_no_steps(self):
        for line in ("", " ", "   ", " " * 1000):
            self.assertEqual(judged(line + "\n", TABLE), NOT_A_STEP)
            self.assertEqual(judged("distinct\n" + line + "\n", TABLE), wrong(1, 1))
            self.assertEqual(judged(line + "\ndistinct\n", TABLE), NOT_A_STEP)
            self.assertEqual(judged("distinct\n" + line + "\ndistinct\n", TABLE), wrong(1, 1))


if __name__ == "__main__":
    unittest.main()
