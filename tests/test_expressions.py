"""Expressions: their form, what binds closer, and the sorts that each operation takes and gives."""

import itertools
import unittest

from tests.helper import Form, Wrong, judged, second_judge, second_tokens, wrong

TABLE = "a:whole,b:fraction,c:text,d:truth\n"
COLUMNS = TABLE[:-1]
NOT_A_STEP = wrong(0, 1)
SORTS_APART = wrong(0, 3)
NAMES = {"whole": "a", "fraction": "b", "text": "c", "truth": "d"}
NUMBERS = ("whole", "fraction")


def value(expression):
    """The sort of an expression, or the refusal."""
    told = judged(f"with n = {expression}\n", TABLE)
    return told.removeprefix(COLUMNS + ",n:") if isinstance(told, str) else told


def sorts_of_two(sign, one, other):
    if sign in ("+", "-", "*", "/"):
        if one in NUMBERS and other in NUMBERS:
            return "fraction" if sign == "/" or "fraction" in (one, other) else "whole"
    elif sign == "++":
        if one == other == "text":
            return "text"
    elif sign in ("and", "or"):
        if one == other == "truth":
            return "truth"
    elif one in NUMBERS and other in NUMBERS or one == other == "text" or sign == "==" and one == other == "truth":
        return "truth"
    return SORTS_APART


class Sorts(unittest.TestCase):
    def test_values_and_names(self):
        for sort, name in NAMES.items():
            self.assertEqual(value(name), sort)
            self.assertEqual(value(f"({name})"), sort)
        for text, sort in (("7", "whole"), ("7/2", "fraction"), ("7/1", "fraction"), ('"x"', "text"), ("true", "truth"),
                           ("false", "truth")):
            self.assertEqual(value(text), sort)

    def test_two_at_every_pair_of_sorts(self):
        for sign in ("+", "-", "*", "/", "++", "==", "<", "<=", "and", "or"):
            for one, other in itertools.product(NAMES, repeat=2):
                told = value(f"{NAMES[one]} {sign} {NAMES[other]}")
                self.assertEqual(told, sorts_of_two(sign, one, other), (one, sign, other))

    def test_one_at_every_sort(self):
        given = {"-": {"whole": "whole", "fraction": "fraction"}, "length": {"text": "whole"}, "not": {"truth": "truth"},
                 "none": dict.fromkeys(NAMES, "truth")}
        for sign, right in given.items():
            for sort, name in NAMES.items():
                self.assertEqual(value(f"{sign} {name}"), right.get(sort, SORTS_APART), (sign, sort))

    def test_if_at_every_three_sorts(self):
        for first, second, third in itertools.product(NAMES, repeat=3):
            told = value(f"if {NAMES[first]} then {NAMES[second]} else {NAMES[third]}")
            right = first == "truth" and second == third
            self.assertEqual(told, second if right else SORTS_APART, (first, second, third))

    def test_else_at_every_pair_of_sorts(self):
        for one, other in itertools.product(NAMES, repeat=2):
            told = value(f"({NAMES[one]} else {NAMES[other]})")
            self.assertEqual(told, one if one == other else SORTS_APART, (one, other))

    def test_a_whole_is_no_fraction_where_one_sort_is_asked(self):
        self.assertEqual(value("(a else 1/2)"), SORTS_APART)
        self.assertEqual(value("(a / 1 else 1/2)"), "fraction")
        self.assertEqual(value("if d then 1 else 1/1"), SORTS_APART)
        self.assertEqual(value("if d then a * 1/1 else 1/1"), "fraction")

    def test_sorts_go_on(self):
        self.assertEqual(value("a + a * b"), "fraction")
        self.assertEqual(value("a + a * a"), "whole")
        self.assertEqual(value("length (c ++ c) + 1"), "whole")
        self.assertEqual(value("length c / 2"), "fraction")
        self.assertEqual(value("-length c"), "whole")
        self.assertEqual(value("length c ++ c"), SORTS_APART)
        self.assertEqual(value("(a < b) == d"), "truth")
        self.assertEqual(value("(a < b) < d"), SORTS_APART)
        self.assertEqual(value("(d and d) + 1"), SORTS_APART)
        self.assertEqual(value("none a == none c"), "truth")
        self.assertEqual(value("none (a + c)"), SORTS_APART)
        self.assertEqual(value("none none a"), "truth")
        self.assertEqual(value("none length c"), "truth")
        self.assertEqual(value("none -a"), "truth")
        self.assertEqual(value("length none c"), SORTS_APART)
        self.assertEqual(value("-none a"), SORTS_APART)

    def test_a_fault_deep_within(self):
        self.assertEqual(value("if d then (a else if d then -(a + length a) else a) else a"), SORTS_APART)
        self.assertEqual(value("if d then (a else if d then -(a + length c) else a) else a"), "whole")

    def test_a_column_that_is_missing_comes_first(self):
        for expression in ("zz", "a + zz", "c + zz", "(zz)", "-zz", "if a then c else zz", "c < 1 and zz", "none zz",
                           "(a else zz)", "length zz", "not zz", "if zz then c else d"):
            self.assertEqual(value(expression), wrong(0, 2), expression)


class Binding(unittest.TestCase):
    """What binds closer, told by sorts: each would be refused if it were bound the other way."""

    def test_right_only_one_way(self):
        for expression, sort in (
                ("a + a == a + a", "truth"), ("c ++ c == c", "truth"), ("c == c ++ c", "truth"), ("a < a * a", "truth"),
                ("a < a and b < b", "truth"), ("a < a or b < b", "truth"), ("not a < a", "truth"), ("not c == c", "truth"),
                ("d or not a <= a and d", "truth"), ("none a and none b", "truth"), ("none c or d", "truth"),
                ("none a == d", "truth"), ("d == none a", "truth"), ("length c + a", "whole"), ("length c * a", "whole"),
                ("length c < a", "truth"), ("a < length c", "truth"), ("length c == length c", "truth"),
                ("-a + length c - -length c", "whole"), ("if a < a then c ++ c else c ++ c", "text"),
                ("if d or d then a else a + a", "whole"), ("none a == none b and none c == d", "truth"),
                ("(c else c ++ c) ++ c", "text"), ("(a else a) + 1", "whole"), ("length (c else c)", "whole")):
            self.assertEqual(value(expression), sort, expression)

    def test_wrong_by_binding(self):
        for expression in ("length c ++ c", "none a + a", "length c == c", "-c == c", "a + a ++ c", "a < d and d < a",
                           "not a and d", "if d then a else a == a", "none c ++ c"):
            self.assertEqual(value(expression), SORTS_APART, expression)

    def test_tests_have_two_sides(self):
        for one, other in itertools.product(("==", "<", "<="), repeat=2):
            self.assertEqual(value(f"a {one} a {other} a"), NOT_A_STEP)
            self.assertEqual(value(f"d {one} a {other} a"), NOT_A_STEP)
            self.assertEqual(value(f"not a {one} a {other} a"), NOT_A_STEP)
            self.assertEqual(value(f"a {one} a + a {other} a"), NOT_A_STEP)
        for sign in ("==", "<", "<="):
            self.assertEqual(value(f"(a {sign} a) == d"), "truth")
            self.assertEqual(value(f"d == (a {sign} a)"), "truth")
            self.assertEqual(value(f"a {sign} a and a {sign} a"), "truth")


class Not(unittest.TestCase):
    def test_where_not_may_stand(self):
        for expression in ("not d", "not not d", "not not not d", "d and not d", "d or not d", "(not d)", "(not d) == d",
                           "d == (not d)", "if not d then not d else not d", "(not d else not d)", "not (not d)", "not none a",
                           "none (not d)", "not a == a", "not d or not d and not d"):
            self.assertEqual(value(expression), "truth", expression)

    def test_where_it_may_not(self):
        for expression in ("d == not d", "d < not d", "-not d", "none not d", "length not c", "a + not d", "a * not d",
                           "c ++ not c", "not", "not not", "d not d", "d not", "not and d"):
            self.assertEqual(value(expression), NOT_A_STEP, expression)


class If(unittest.TestCase):
    def test_where_if_may_stand(self):
        for expression in (
                "if d then a else a", "(if d then a else a)", "(if d then a else a) + 1", "1 + (if d then a else a)",
                "if d then if d then a else a else a", "if d then a else if d then a else a",
                "if if d then d else d then a else a", "if if if d then d else d then d else d then a else a",
                "if d then a + a else a + a", "-(if d then a else a)", "(if d then a else a else a)",
                "(if d then a else if d then a else a else a)", "(if d then if d then a else a else a else a)",
                "(a else if d then a else a)", "(if d then a else a else if d then a else a)",
                "if (d else d) then (a else a) else (a else a)"):
            self.assertEqual(value(expression), "whole", expression)
        self.assertEqual(value("not (if d then d else d)"), "truth")
        self.assertEqual(value("if d then d else not d or d"), "truth")

    def test_where_it_may_not(self):
        for expression in (
                "1 + if d then a else a", "-if d then a else a", "not if d then d else d", "d and if d then d else d",
                "d or if d then d else d", "a == if d then a else a", "none if d then a else a", "length if d then c else c",
                "a * if d then a else a"):
            self.assertEqual(value(expression), NOT_A_STEP, expression)

    def test_parts_that_are_missing_or_too_many(self):
        for expression in (
                "if", "if d", "if d then", "if d then a", "if d then a else", "if then a else a", "if d else a",
                "if d then else a", "if d else a then a", "if d then a then a else a", "if d then a else a else a",
                "d then a else a", "then a", "else a", "a else a", "a then a", "if d then if d then a else a",
                "(if d then a else a else a else a)", "(if d then a)", "(if d) then a else a", "if (d then a else a)",
                "if (d then a) else a", "if d then (a else a", "if d then a else a)", "if d then (a) (else a)",
                "if d then (if d then a else a", "(if d then a else", "if d if d then a else a"):
            self.assertEqual(value(expression), NOT_A_STEP, expression)

    def test_only_if_begins_one(self):
        for token in ("+", "*", "/", "++", "==", "<", "=", ",", ":", ")", "then", "else", "and", "or", "as", "where", "", "not", "none", "-", "("):
            self.assertEqual(value(f"{token} d then a else a"), NOT_A_STEP, token)
            self.assertEqual(value(f"({token} d then a else a)"), NOT_A_STEP, token)
            self.assertEqual(value(f"if {token} d then a else a then a else a"), NOT_A_STEP, token)


class Else(unittest.TestCase):
    def test_only_in_parentheses_and_once(self):
        for expression in ("(a else a)", "((a else a) else a)", "(a else (a else a))", "(a + a else a * a)", "-(a else a)",
                           "((a) else (a))", "(-a else -a)"):
            self.assertEqual(value(expression), "whole", expression)
        for expression in ("a else a", "(a else a else a)", "(a else)", "(else a)", "(else)", "(a) else a", "a else (a)",
                           "(a else a", "a else a)", "(a else a) else a", "((a else a) else a", "(a, a)", "(a else, a)"):
            self.assertEqual(value(expression), NOT_A_STEP, expression)


class Parentheses(unittest.TestCase):
    def test_as_deep_as_the_tokens_let_them_be(self):
        for depth in range(34, 42):
            told = value("(" * depth + "a" + ")" * depth)
            self.assertEqual(told, "whole" if 4 + 2 * depth <= 80 else NOT_A_STEP, depth)
        for depth in range(15, 23):
            told = value("(" * depth + "a" + " else a)" * depth)
            self.assertEqual(told, "whole" if 4 + 4 * depth <= 80 else NOT_A_STEP, depth)
        for depth in range(10, 16):
            told = value("if d then " * depth + "a" + " else a" * depth)
            self.assertEqual(told, "whole" if 4 + 5 * depth <= 80 else NOT_A_STEP, depth)
            told = value("if d then a else " * depth + "a")
            self.assertEqual(told, "whole" if 4 + 5 * depth <= 80 else NOT_A_STEP, depth)
            told = value("if " * depth + "d" + " then d else d" * depth)
            self.assertEqual(told, "truth" if 4 + 5 * depth <= 80 else NOT_A_STEP, depth)
        for depth in range(20, 28):
            told = value("-(" * depth + "a" + ")" * depth)
            self.assertEqual(told, "whole" if 4 + 3 * depth <= 80 else NOT_A_STEP, depth)

    def test_signs_before_as_many_as_the_tokens_let_be(self):
        for count in range(70, 82):
            for sign, name, sort in (("-", "a", "whole"), ("none ", "c", "truth"), ("not ", "d", "truth")):
                told = value(sign * count + name)
                self.assertEqual(told, sort if 4 + count <= 80 else NOT_A_STEP, (sign, count))

    def test_not_in_pairs(self):
        for expression in ("(", ")", "()", "(a", "a)", "((a)", "(a))", ")a(", "(a)(a)", "a(a)", "(a) a", "a ()", "() a",
                           "(a +) a", "a (+ a)", "(((", ")))"):
            self.assertEqual(value(expression), NOT_A_STEP, expression)


class Forms(unittest.TestCase):
    def test_no_expression(self):
        for expression in ("", "+", "==", ",", ":", "=", "a,", ",a", "a:", "a = a", "a as n", "by", "a down", "a b", "1 1",
                           "true false", "none", "length", "-", "a and", "and a", "or", "a ==", "== a", "a < ", "a (",
                           "rows", "sum a", "first", "number", "(a as n)"):
            self.assertEqual(value(expression), NOT_A_STEP, expression)

    def test_no_listed_word_is_a_name(self):
        words = """and as before by distinct down else first greatest group if join keep last least left length mean minus
        none not number on or order part plus rank rows sum take then values where window with""".split()
        for word in words:
            self.assertEqual(value(word), NOT_A_STEP, word)
            self.assertEqual(value(f"a + {word}"), NOT_A_STEP, word)

    def test_all_short_rows_of_tokens(self):
        """Every row of up to five tokens of each kind, against the form told level by level."""
        tokens = ("a", "-", "*", "==", "(", ")", "not", "and", "if", "then", "else", "none")
        for count in range(1, 5):
            for row in itertools.product(tokens, repeat=count):
                self.check_form(" ".join(row))
        for row in itertools.product(("a", "-", "==", "(", ")", "not", "else"), repeat=5):
            self.check_form(" ".join(row))

    def test_rows_of_tokens_around_if(self):
        tokens = ("a", "(", ")", "if", "else")
        for row in itertools.product(tokens, repeat=3):
            self.check_form("if a then a " + " ".join(row))
            self.check_form("( if a then a else a " + " ".join(row))
            self.check_form("if a then if a then a else a " + " ".join(row))
            self.check_form("( a else if a then a else a " + " ".join(row))

    def check_form(self, expression):
        form = Form(second_tokens(expression))
        try:
            form.expr()
            right = form.at == len(form.tokens) - 1
        except (Wrong, IndexError):
            right = False
        self.assertEqual(value(expression) != NOT_A_STEP, right, expression)

    def test_against_the_second_judge(self):
        for signs in itertools.product(("or", "and", "==", "<=", "+", "++", "/"), repeat=3):
            for names in (("d", "d", "d", "d"), ("a", "b", "a", "a"), ("c", "c", "c", "c"), ("a", "a", "d", "d"),
                          ("d", "a", "a", "d"), ("c", "c", "a", "b"), ("a", "a", "c", "c")):
                expression = " ".join(itertools.chain(*zip(names, signs + ("",))))
                question = f"with n = {expression}\n"
                self.assertEqual(judged(question, TABLE), second_judge(question, TABLE), question)


if __name__ == "__main__":
    unittest.main()
