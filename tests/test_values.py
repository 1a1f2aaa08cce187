"""The values of expressions in a row: exact numbers, texts, truths, and where they are none."""

import itertools
import unittest
from fractions import Fraction

from tests.helper import rows_of, second_run

TABLE = "a:whole,b:fraction,c:text,d:truth,na:whole,nb:fraction,nc:text,nd:truth\n7,1/2,\"xy\",true,,,,\n"
NONE = ""


def value(expression, table=TABLE):
    """The value of an expression in a table's one row, as a table writes it."""
    line, = rows_of(f"with n = {expression}\nkeep n\n", table)
    return line


def written(number, sort):
    if number is None:
        return ""
    return str(number) if sort == "whole" else f"{Fraction(number).numerator}/{Fraction(number).denominator}"


class Case(unittest.TestCase):
    def check(self, given):
        for expression, told in given.items():
            self.assertEqual(value(expression), told, expression)


class Numbers(Case):
    def test_wholes(self):
        self.check({"a": "7", "a + 1": "8", "a - 9": "-2", "a * 3": "21", "-a": "-7", "--a": "7", "a - a": "0", "-(a - a)": "0", "0 * a": "0",
                    "a * -1": "-7", "1 - 2 - 3": "-4", "1 - (2 - 3)": "2", "2 * 3 + 4": "10", "2 + 3 * 4": "14", "(2 + 3) * 4": "20",
                    "-a + 1": "-6", "-(a + 1)": "-8", "-a * -a": "49", "2 - -3": "5", "12345678901234567890 * 98765432109876543210":
                    str(12345678901234567890 * 98765432109876543210)})

    def test_fractions(self):
        self.check({"b": "1/2", "b + b": "1/1", "b - b": "0/1", "b * 2": "1/1", "b + 1": "3/2", "1 + b": "3/2", "b * b": "1/4", "-b": "-1/2",
                    "b - 1": "-1/2", "b / b": "1/1", "b / 2": "1/4", "2 / b": "4/1", "a / 2": "7/2", "a / 7": "1/1", "6 / 4": "3/2",
                    "0 / a": "0/1", "-6 / 4": "-3/2", "6 / -4": "-3/2", "-6 / -4": "3/2", "0 / -4": "0/1", "b / -b": "-1/1", "1/3 + 1/6": "1/2",
                    "1/3 - 1/3": "0/1", "2/1 * 3": "6/1", "a + 0/1": "7/1", "8 / 4 / 2": "1/1", "8 / (4 / 2)": "4/1", "2 * 3 / 4": "3/2",
                    "1/2 / 3": "1/6", "1 / 2/3": "3/2", "1/2/3/4": "2/3", "-1/2": "-1/2", "1/2 - 1/3 - 1/6": "0/1", "b * 0": "0/1"})

    def test_division_by_nought(self):
        self.check({"1 / 0": NONE, "0 / 0": NONE, "b / 0": NONE, "b / 0/1": NONE, "a / (b - b)": NONE, "1 / (a - 7)": NONE, "1 / 0 + 1": NONE,
                    "none (1 / 0)": "true", "(1 / 0 else 5/1)": "5/1", "na / 0": NONE, "0 / 1": "0/1", "1 / 0 == 1 / 0": NONE})

    def test_every_pair_of_small_numbers(self):
        numbers = ["0", "1", "2", "-3", "6", "0/1", "1/2", "-1/2", "4/3", "2/1", "-6/5"]
        for one, other in itertools.product(numbers, repeat=2):
            table = f"a:{self.sort(one)},b:{self.sort(other)}\n{one},{other}\n"
            sort = "fraction" if "/" in one + other else "whole"
            x, y = Fraction(one), Fraction(other)
            self.assertEqual(value("a + b", table), written(x + y, sort))
            self.assertEqual(value("a - b", table), written(x - y, sort))
            self.assertEqual(value("a * b", table), written(x * y, sort))
            self.assertEqual(value("a / b", table), written(x / y if y else None, "fraction"))
            self.assertEqual(value("-a", table), written(-x, self.sort(one)))
            for sign, told in (("==", x == y), ("<", x < y), ("<=", x <= y)):
                self.assertEqual(value(f"a {sign} b", table), str(told).lower(), (one, sign, other))

    def sort(self, number):
        return "fraction" if "/" in number else "whole"

    def test_long_numbers(self):
        one, other = 3 ** 800, 7 ** 400
        self.check({f"{one} - {other}": str(one - other), f"{one} < {other}": str(one < other).lower(),
                    f"{one} / {other}": f"{one}/{other}", f"{other}/{one} * {one}": f"{other}/1", f"{one}/{other} + 1": f"{one + other}/{other}",
                    f"{one} == {one}": "true", f"{one} == {one}/1": "true", f"{one}/{other} == {one} / {other}": "true",
                    f"{one}/{other} < {one + 1} / {other}": "true"})


class Texts(Case):
    def test_joined_and_length(self):
        self.check({"c": '"xy"', 'c ++ "z"': '"xyz"', '"" ++ ""': '""', 'c ++ c ++ c': '"xyxyxy"', '"a" ++ ("b" ++ "c")': '"abc"', "length c": "2",
                    'length ""': "0", r'length "\n"': "1", r'length "\\\""': "2", r'"\n" ++ "\"" ++ "\\"': r'"\n\"\\"', "length (c ++ c)": "4",
                    "length c + length c": "4", "-length c": "-2", 'length "' + "x" * 1000 + '"': "1000", r'"a,b"': '"a,b"', '"n"': '"n"'})

    def test_compared_byte_by_byte(self):
        texts = ["", " ", "!", "0", "A", "Z", "a", "aa", "ab", "b", "~", "a ", "a~", r"\n", r"a\n", r"\"", r"\\", "_"]
        plain = [text.replace(r"\n", "\n").replace(r"\"", '"').replace(r"\\", "\\") for text in texts]
        for (one, x), (other, y) in itertools.product(zip(texts, plain), repeat=2):
            for sign, told in (("==", x == y), ("<", x < y), ("<=", x <= y)):
                self.assertEqual(value(f'"{one}" {sign} "{other}"'), str(told).lower(), (one, sign, other))

    def test_texts_of_two_bytes_are_no_fractions(self):
        table = 'a:text,b:text\n"!z","\\"#"\n'
        self.check({'"!z" < "\\"#"': "true", '"\\"#" < "!z"': "false"})
        self.assertEqual(value("a < b", table), "true")
        self.assertEqual(value("b < a", table), "false")


class Truths(Case):
    TRUTHS = {"true": True, "false": False, "nd": None}

    def show(self, truth):
        return {True: "true", False: "false", None: ""}[truth]

    def test_and_or_not(self):
        for (one, x), (other, y) in itertools.product(self.TRUTHS.items(), repeat=2):
            both = False if x is False or y is False else None if x is None or y is None else True
            either = True if x is True or y is True else None if x is None or y is None else False
            same = None if x is None or y is None else x == y
            self.assertEqual(value(f"{one} and {other}"), self.show(both), (one, other))
            self.assertEqual(value(f"{one} or {other}"), self.show(either), (one, other))
            self.assertEqual(value(f"{one} == {other}"), self.show(same), (one, other))
        self.check({"not true": "false", "not false": "true", "not nd": NONE, "not not d": "true", "not not nd": NONE})

    def test_three_truths_by_their_binding(self):
        for one, other, third in itertools.product(self.TRUTHS, repeat=3):
            for first, second in itertools.product(("and", "or"), repeat=2):
                told = f"({one} {first} {other}) {second} {third}"
                if first == "or" and second == "and":
                    told = f"{one} or ({other} and {third})"
                self.assertEqual(value(f"{one} {first} {other} {second} {third}"), value(told))
                self.assertEqual(value(f"not {one} {first} {other}"), value(f"(not {one}) {first} {other}"))

    def test_if(self):
        self.check({"if true then 1 else 2": "1", "if false then 1 else 2": "2", "if nd then 1 else 2": "2", "if d then na else 2": NONE,
                    "if nd then 1 else na": NONE, "if not d then na else 2": "2", "if d then c else nc": '"xy"', "if none na then d else nd": "true",
                    "if a < 3 then 1 else if a < 9 then 2 else 3": "2", "if a < 9 then if a < 3 then 1 else 2 else 3": "2",
                    "if if d then false else true then 1 else 2": "2", "(if d then 1 else 2) + 10": "11", "if d then 1 else 2 + 10": "1",
                    "if not d then 1 else 2 + 10": "12"})

    def test_else(self):
        self.check({"(a else 1)": "7", "(na else 1)": "1", "(na else na)": NONE, "(nc else c)": '"xy"', "(nd else false)": "false",
                    "(false else true)": "false", "(nb else 1/2)": "1/2", "((na else na) else 3)": "3", "(na else (na else 3))": "3",
                    "(0 else 5)": "0", '("" else "x")': '""', "(na + 1 else 2)": "2", "(if nd then a else na else 4)": "4", "(a / 0 else b)": "1/2"})

    def test_none(self):
        for name in ("a", "b", "c", "d"):
            self.check({f"none {name}": "false", f"none n{name}": "true", f"none none n{name}": "false", f"not none {name}": "true"})
        self.check({"none 0": "false", 'none ""': "false", "none false": "false", "none (1 / 0)": "true", "none (nd and false)": "false",
                    "none (nd or false)": "true", "none na == none nb": "true", "none -na": "true", "none length nc": "true",
                    "length (nc else c)": "2"})


class WhereNone(Case):
    def test_an_operand_that_is_none(self):
        for sign in ("+", "-", "*", "/", "==", "<", "<="):
            for one, other in (("a", "na"), ("na", "a"), ("na", "na"), ("b", "na"), ("nb", "a"), ("a", "nb"), ("nb", "nb"), ("na", "0"), ("0", "na")):
                self.assertEqual(value(f"{one} {sign} {other}"), NONE, (one, sign, other))
        for sign in ("++", "==", "<", "<="):
            for one, other in (("c", "nc"), ("nc", "c"), ("nc", "nc"), ('""', "nc")):
                self.assertEqual(value(f"{one} {sign} {other}"), NONE, (one, sign, other))
        self.check({"-na": NONE, "-nb": NONE, "length nc": NONE, "not nd": NONE, "na * 0": NONE, "a + na * 2": NONE, "--na": NONE})


class Binding(Case):
    def test_each_level(self):
        self.check({"2 + 3 * 4 - 1": "13", "10 - 4 - 3": "3", "10 - 4 + 3": "9", "2 * 6 / 4 * 3": "9/1", "-2 * 3 + 1": "-5", "1 + 2 == 3": "true",
                    "1 + 2 < 2 * 2": "true", "not 1 == 2": "true", "not 1 == 1 or true": "true", "true or true and false": "true",
                    "(true or true) and false": "false", "false and true or true": "true", "not false and false": "false",
                    "not (false and false)": "true", "none na == false": "false", "none a == false": "true", "length c == 2 and d": "true",
                    "1 == 2 or 2 == 2": "true", "2 - 3 * 4 - 5": "-15", "2 * 3 - 4 * 5": "-14", "12 / 2 * 3": "18/1", "12 / (2 * 3)": "2/1",
                    '"a" ++ "b" == "ab"': "true", '"b" < "a" ++ "b"': "false", "-2 - -3": "1", "--2": "2", "-(2 - 3)": "1"})

    def test_x_y_z_on_each_level(self):
        for one, other in itertools.product("+-", repeat=2):
            self.assertEqual(value(f"20 {one} 5 {other} 3"), value(f"(20 {one} 5) {other} 3"))
        for one, other in itertools.product("*/", repeat=2):
            self.assertEqual(value(f"20 {one} 5 {other} 3"), value(f"(20 {one} 5) {other} 3"))
        for one, other in itertools.product("+-", "*/"):
            self.assertEqual(value(f"20 {one} 5 {other} 3"), value(f"20 {one} (5 {other} 3)"))
            self.assertEqual(value(f"20 {other} 5 {one} 3"), value(f"(20 {other} 5) {one} 3"))

    def test_rows_of_signs_against_the_second_program(self):
        for signs in itertools.product(("+", "-", "*", "/"), repeat=4):
            expression = " ".join(itertools.chain(*zip(("7", "5", "3", "2", "11"), signs + ("",))))
            question = f"with n = {expression}\nkeep n\n"
            self.assertEqual(value(expression), second_run(question, TABLE).split("\n")[1], expression)

    def test_deep_within(self):
        self.check({"(" * 37 + "a" + ")" * 37: "7", "-" * 76 + "a": "7", "-" * 75 + "a": "-7", "(" * 19 + "na" + " else na)" * 18 + " else 5)": "5",
                    "if d then " * 15 + "a" + " else 1" * 15: "7", "if not d then 1 else " * 12 + "a": "7", "-(" * 25 + "a" + ")" * 25: "-7"})


class OfEachRow(unittest.TestCase):
    def test_the_cells_of_the_row(self):
        table = 'a:whole,b:text\n1,"x"\n2,"y"\n3,"x"\n,"y"\n'
        self.assertEqual(rows_of("with c = a / 2\nkeep c\n", table), ["1/2", "1/1", "3/2", ""])
        self.assertEqual(rows_of("with c = b ++ b\nkeep c\n", table), ['"xx"', '"yy"', '"xx"', '"yy"'])
        self.assertEqual(rows_of("with c = (a else 0) * 2 == 4\n", table),
                         ['1,"x",false', '2,"y",true', '3,"x",false', ',"y",false'])

    def test_names_and_not_places(self):
        table = "a:whole,b:whole\n1,2\n"
        self.assertEqual(rows_of("keep b as a, a as b\nwith c = a * 10 + b\n", table), ["2,1,21"])
        self.assertEqual(rows_of("keep b, a\nwith c = a * 10 + b\n", table), ["2,1,12"])


if __name__ == "__main__":
    unittest.main()
