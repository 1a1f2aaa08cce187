"""Better questions: how their steps and expressions are written."""

import itertools
import re
import unittest

from tests.helper import Draw, Wrong, bettered, judged, second_expression, second_line, second_step, second_tokens

TABLE = "a:whole,b:text,c:whole,d:truth,e:truth,f:fraction,g:text\n"
OTHER = "a:whole,b:text,z:truth\n"

# What each operation takes and makes; the letters stand for the sorts, s for any one of them.
SORTS = {"w": "whole", "f": "fraction", "t": "text", "r": "truth"}
LEAVES = {"w": ("a", "c"), "f": ("f",), "t": ("b", "g"), "r": ("d", "e")}
OPERATIONS = {
    "{} or {}": ["rr>r"], "{} and {}": ["rr>r"], "not {}": ["r>r"], "{} == {}": ["ww>r", "tt>r", "rr>r", "wf>r"],
    "{} < {}": ["ww>r", "tt>r", "fw>r"], "{} <= {}": ["ww>r", "tt>r", "ff>r"], "{} + {}": ["ww>w", "wf>f"], "{} - {}": ["ww>w", "fw>f"],
    "{} ++ {}": ["tt>t"], "{} * {}": ["ww>w", "ff>f"], "{} / {}": ["ww>f", "wf>f", "ff>f"], "-{}": ["w>w", "f>f"], "length {}": ["t>w"],
    "none {}": ["w>r", "f>r", "t>r", "r>r"], "if {} then {} else {}": ["rww>w", "rff>f", "rtt>t", "rrr>r"],
    "({} else {})": ["ww>w", "ff>f", "tt>t", "rr>r"],
}
ALL_OPERATIONS = [(text, *row.split(">")) for text, rows in OPERATIONS.items() for row in rows]


def written(line):
    """What better writes of a question of one line, or its refusal."""
    told = bettered(line + "\n", TABLE, OTHER)
    return told.removesuffix("\n") if isinstance(told, str) else told


def tree_of(expression):
    """An expression's form, or None if it has none."""
    try:
        return second_expression(second_tokens(expression))
    except Wrong:
        return None


def leaves(taken):
    return [LEAVES[sort][place % len(LEAVES[sort])] for place, sort in enumerate(taken)]


def pairs_of_operations():
    """Texts with one operation within another, with and without parentheses around the inner one."""
    for outer, taken, made in ALL_OPERATIONS:
        for place, sort in enumerate(taken):
            for inner, others, given in ALL_OPERATIONS:
                if given == sort:
                    parts = leaves(taken)
                    within = inner.format(*leaves(others))
                    bare = outer.format(*parts[:place], within, *parts[place + 1:])
                    yield outer.format(*parts[:place], f"({within})", *parts[place + 1:]), bare


class Steps(unittest.TestCase):
    def all_written(self, *pairs):
        for line, told in pairs:
            self.assertEqual(written(line), told, line)
            self.assertEqual(written(told), told)
            self.assertEqual(second_line(second_step(line)), told)

    def test_where(self):
        self.all_written(("where d", "where d"), ("  where   d  ", "where d"), ("where(d)", "where d"), ("where a<3", "where a < 3"))

    def test_keep(self):
        self.all_written(("keep a", "keep a"), ("keep a,b", "keep a, b"), ("keep a as x,b as y , c", "keep a as x, b as y, c"),
                         ("keep  a  ,  b  as  x ", "keep a, b as x"))

    def test_with(self):
        self.all_written(("with n=1", "with n = 1"), ("with n  =  a+c", "with n = a + c"), ('with n="x"', 'with n = "x"'))

    def test_join(self):
        self.all_written(
            ("join 1 on a=a", "join 1 on a = a"), ("left join 1 on a=a", "left join 1 on a = a"), ("join 0 on d=d,a=c", "join 0 on d = d, a = c"),
            ("join 1 on a=a take z", "join 1 on a = a take z"), ("join 1 on a=a,b = b take z,a as x , b as y",
                                                                 "join 1 on a = a, b = b take z, a as x, b as y"),
            (" left  join  1  on  a = a , g = b  take  a as n , z ", "left join 1 on a = a, g = b take a as n, z"))

    def test_group(self):
        self.all_written(
            ("group a", "group a"), ("group a,b", "group a, b"), ("group:rows as n", "group: rows as n"), ("group : rows as n", "group: rows as n"),
            ("group a:rows as n,values c as v", "group a: rows as n, values c as v"),
            ("group a , b : sum a as s,least b as l , greatest f as g,mean c as m,first d as x,last e as y,values g as v , rows as n",
             "group a, b: sum a as s, least b as l, greatest f as g, mean c as m, first d as x, last e as y, values g as v, rows as n"))

    def test_order(self):
        self.all_written(("order a", "order a"), ("order a down", "order a down"), ("order  a,b  down , c", "order a, b down, c"))

    def test_part(self):
        self.all_written(("part 0 0", "part 0 0"), ("part  12   9999 ", "part 12 9999"))

    def test_distinct_plus_minus(self):
        self.all_written((" distinct ", "distinct"), ("plus  0", "plus 0"), ("minus   0  ", "minus 0"))

    def test_window(self):
        self.all_written(
            ("window:number as n", "window: number as n"), ("window a :rank as n", "window a: rank as n"),
            ("window by a:number as n", "window by a: number as n"), ("window a,b by c down,d : sum c as s,before b as p,rank as r",
                                                                      "window a, b by c down, d: sum c as s, before b as p, rank as r"),
            ("window  a  by  b , c  down : number  as n", "window a by b, c down: number as n"))

    def test_as_with_its_own_name(self):
        self.all_written(
            ("keep a as a", "keep a"), ("keep a as a, b as x, c as c", "keep a, b as x, c"), ("keep a as b, b as a", "keep a as b, b as a"),
            ("join 1 on a = a take z as z", "join 1 on a = a take z"), ("left join 1 on a = a take z as z, b as x", "left join 1 on a = a take z, b as x"))

    def test_as_of_what_is_made_always_stands(self):
        self.all_written(("group a: sum c as c", "group a: sum c as c"), ("group: first a as a", "group: first a as a"))

    def test_blanks_only_where_they_stand(self):
        draw = Draw(5)
        for told in ("where (a else 3) < length b and not (d or e)", 'with n = -(-a - -(c + 1)) * 1/2', "keep a, b as x", "group a, b: rows as n",
                     "left join 1 on a = a, b = b take z, a as x", "window a by b down, c: number as n, rank as m", "order a, b down",
                     'with n = "a , b : ( c ) - d" ++ b', "part 1 2", "with n = if d then --a else -(a - 1)"):
            tokens = re.findall(r'"[^"]*"|\w+/\w+|\w+|==|<=|\+\+|[^ ]', told)
            for _ in range(30):
                # words and numbers must not grow together
                line = "".join(token + " " * token[-1].isalnum() + draw.one("", " ", "   ") for token in tokens)
                self.assertEqual(written(draw.one("", "  ") + line), told, line)

    def test_all_lines_of_a_question(self):
        question = "where a+1<3\npart 0  9\n  plus 0\ngroup a ,b:rows as n\n window : number as m\nminus  2\n"
        told = "where a + 1 < 3\npart 0 9\nplus 0\ngroup a, b: rows as n\nwindow: number as m\nminus 2\n"
        self.assertEqual(bettered(question, TABLE, OTHER, "a:whole,b:text,n:whole,m:whole\n"), told)

    def test_lines_that_a_rule_moved_are_written_anew_too(self):
        self.assertEqual(bettered("order  a ,b  down\nkeep a as a ,d as d\nwhere  ( d )\n", TABLE), "where d\norder a, b down\nkeep a, d\n")


class Values(unittest.TestCase):
    def stays(self, *expressions):
        for expression in expressions:
            self.assertEqual(written(f"with n = {expression}"), f"with n = {expression}")

    def test_wholes(self):
        self.stays("0", "1", "10", "9" * 400, "1" + "0" * 399, "-1", "-0", "--1", "1 - 1", "1 - -1")

    def test_fractions(self):
        self.stays("0/1", "1/2", "2/1", "-7/3", "9" * 400 + "/" + "1" + "0" * 399, "1/2 / 3/4", "1 / 2", "1/2 - 1/3", "a / 2", "2/3 / a", "1 / 2/3")

    def test_texts(self):
        self.stays('""', '"x"', '" "', '"\\""', '"\\\\"', '"\\n"', '"\\\\n"', '"\\\\\\""', '"a\\nb\\"c\\\\d"', '"' + "x" * 1000 + '"', '"' + "\\n" * 1000 + '"',
                   '"' + "".join(chr(byte) for byte in range(32, 127) if byte not in (34, 92)) + '"', '"(a , b : c) - 1 ++ \\" else"',
                   '"," ++ ")" ++ ":" ++ "(" ++ "-"', 'if "x" < "(" then ")" else ","')

    def test_truths(self):
        self.stays("true", "false", "not true", "true and false")

    def test_names(self):
        table = "a:whole,x0_:text," + "n" * 31 + ":truth,negative:whole,whole:whole,els:truth\n"
        for line in ("where " + "n" * 31 + " or els", 'with n = x0_ ++ "x0_"', "with n = -negative - whole", "order negative down, " + "n" * 31):
            self.assertEqual(bettered(line + "\n", table), line + "\n")


class Parentheses(unittest.TestCase):
    def stays(self, *expressions):
        for expression in expressions:
            self.assertEqual(written(f"with n = {expression}"), f"with n = {expression}")

    def becomes(self, *pairs):
        for expression, told in pairs:
            self.assertEqual(written(f"with n = {expression}"), f"with n = {told}", expression)

    def test_the_documents(self):
        self.stays("a - (a - c)", "(a + c) * a", "not (d and e)")
        self.becomes(("(a - a) - c", "a - a - c"), ("(a * c) + a", "a * c + a"), ("(not d) and e", "not d and e"))

    def test_every_pair_of_operations(self):
        count = 0
        for nested, bare in pairs_of_operations():
            # needed just where the text without them has another form or none
            told = bare if tree_of(bare) == tree_of(nested) else nested
            self.assertEqual(written(f"with n = {nested}"), f"with n = {told}", nested)
            if told == bare:
                self.assertEqual(written(f"with n = {bare}"), f"with n = {bare}")
            elif judged(f"with n = {bare}\n", TABLE)[0] == "a":
                # without them it's another expression, which has no needless ones
                self.assertEqual(written(f"with n = {bare}"), f"with n = {bare}")
            count += 1
        self.assertGreater(count, 400)

    def test_on_the_left_and_on_the_right(self):
        for one, other in itertools.product("+-", repeat=2):
            self.becomes((f"(a {one} c) {other} a", f"a {one} c {other} a"))
            self.stays(f"a {one} (c {other} a)")
        for one, other in itertools.product("*/", repeat=2):
            self.becomes((f"(a {one} c) {other} f", f"a {one} c {other} f"))
            self.stays(f"a {one} (c {other} f)")
        self.becomes(('(b ++ g) ++ "x"', 'b ++ g ++ "x"'), ("(d or e) or d", "d or e or d"), ("(d and e) and d", "d and e and d"))
        self.stays('b ++ (g ++ "x")', "d or (e or d)", "d and (e and d)")
        self.stays("(d == e) == d", "d == (e == d)", "(a < c) == (c <= a)", "(a == c) == (b == g)")

    def test_chains_stay_chains(self):
        self.stays("a + c - a + c - 1", "a * c / f * 2 / 3", "d or e or d or e", "d and e and d", 'b ++ g ++ b ++ "x"', "a * c + a * c - a / c")

    def test_signs_before_one_another(self):
        self.stays("--a", "---a", "-length b", "none -a", "none --a", "none length b", "none none a", "none none none a", "not none a", "not not d",
                   "not not not none a", "none -length b", "--length b", "-1/2", "none b", "length b")
        self.becomes(("- - a", "--a"), ("-(-a)", "--a"), ("-(-(-(a)))", "---a"), ("-(length b)", "-length b"), ("none(-a)", "none -a"),
                     ("none (none (a))", "none none a"), ("not (not (d))", "not not d"), ("not (none a)", "not none a"), ("none(length(b))", "none length b"),
                     ("-  length  (  b  )", "-length b"))

    def test_signs_before_parentheses(self):
        self.stays("-(a + c)", "-(a * c)", "--(a - c)", "-(-a - c)", "length (b ++ g)", "none (a + c)", "none (d and e)", "none (not d)", "none (a == c)",
                   "not (d and e)", "not (d or e)", "not (if d then e else d)", "-(if d then a else c)", "length (if d then b else g)",
                   "none (if d then b else g)", "-(a else c)", "length (b else g)", "none (b else g)", "not (d else e)", "none (a * c)", "none -(a * c)",
                   "not not (d or e)", "none none (d or e)", "-length (b ++ g)")
        self.becomes(("not (d == e)", "not d == e"), ("not (a < c)", "not a < c"), ("none ((a + c))", "none (a + c)"), ("-((a else c))", "-(a else c)"),
                     ("length ( b ++ g )", "length (b ++ g)"), ("- (a + c)", "-(a + c)"))

    def test_signs_before_and_what_is_between(self):
        self.stays("-a * c", "a * -c", "-a + c", "a + -c", "a - -c", "a - --c", "-(a * c)", "length b * 2", "2 * length b", "none a == d", "d == none a",
                   "(not d) == e", "d == (not e)", "not d == e", "not d and e", "not (d and e)", "d and not e", "not d or not e", "none a and none b",
                   "a - -(c + 1)")
        self.becomes(("(-a) * c", "-a * c"), ("a * (-c)", "a * -c"), ("a - (-c)", "a - -c"), ("a--c", "a - -c"), ("a- -c", "a - -c"), ("a+-c", "a + -c"),
                     ("(none a) == d", "none a == d"), ("d and (not e)", "d and not e"), ("(length b) < 2", "length b < 2"))

    def test_if_within_every_other_form(self):
        truth, number, text = "(if d then e else d)", "(if d then a else c)", "(if d then b else g)"
        for outer, taken, _ in ALL_OPERATIONS:
            if outer.startswith("if") or outer.endswith(" else {})"):
                continue
            for place, sort in enumerate(taken):
                if sort != "f":
                    parts = leaves(taken)
                    parts[place] = {"r": truth, "w": number, "t": text}[sort]
                    self.stays(outer.format(*parts))

    def test_if_within_if(self):
        self.stays("if if d then e else d then a else c", "if d then if e then a else c else c", "if d then a else if e then a else c",
                   "if if d then e else d then if e then a else c else if d then c else a", "if d then if e then if d then 1 else 2 else 3 else 4")
        self.becomes(("if (if d then e else d) then a else c", "if if d then e else d then a else c"),
                     ("if d then (if e then a else c) else c", "if d then if e then a else c else c"),
                     ("if d then a else (if e then a else c)", "if d then a else if e then a else c"),
                     ("(if d then a else c)", "if d then a else c"), ("((if d then (a) else ((c))))", "if d then a else c"))

    def test_if_and_else(self):
        self.stays("(if d then a else c else a)", "(a else if d then a else c)", "(if d then a else c else if e then a else c)",
                   "if (d else e) then (a else c) else (c else a)", "if d then (a else c) else c", "if d then c else (a else c)")
        self.becomes(("((if d then a else c) else a)", "(if d then a else c else a)"), ("(a else (if d then a else c))", "(a else if d then a else c)"),
                     ("(if d then a else (c else a))", "if d then a else (c else a)"))

    def test_all_forms_within_if_and_else_stand_bare(self):
        for inner, taken, given in ALL_OPERATIONS:
            within = inner.format(*leaves(taken))
            leaf = LEAVES[given][0]
            for told in (f"if d then {within} else {leaf}", f"if d then {leaf} else {within}", f"({within} else {leaf})", f"({leaf} else {within})"):
                self.stays(told)
                self.becomes((told.replace(within, f"({within})", 1), told))
            if given == "r":
                self.stays(f"if {within} then a else c")
                self.becomes((f"if ({within}) then a else c", f"if {within} then a else c"))

    def test_else_within_every_other_form(self):
        for outer, taken, _ in ALL_OPERATIONS:
            for place, sort in enumerate(taken):
                parts = leaves(taken)
                parts[place] = f"({parts[place]} else {LEAVES[sort][-1]})"
                told = outer.format(*parts)
                self.stays(told)
                self.becomes((told.replace(parts[place], f"({parts[place]})", 1), told))

    def test_else_within_else(self):
        self.stays("((a else c) else 1)", "(a else (c else 1))", "((a else c) else (1 else 2))", "(((a else c) else a) else c)")
        self.becomes(("((((a else c))else 1))", "((a else c) else 1)"))

    def test_needless_ones_go(self):
        self.becomes(("(a)", "a"), ("(((a)))", "a"), ("(1)", "1"), ("(1/2)", "1/2"), ('("x")', '"x"'), ("(true)", "true"), ("((a)+(c))", "a + c"),
                     ("((a + c))", "a + c"), ("(a * (c))", "a * c"), ("(d) and ((e))", "d and e"), ("((a < c) and (d)) or (e)", "a < c and d or e"),
                     ("(" * 30 + "a" + ")" * 30, "a"), ("-(1)", "-1"), ("(1) / (2)", "1 / 2"), ("(d and e) or (not d)", "d and e or not d"))

    def test_deep_ones_stay(self):
        for depth in (1, 5, 12):
            self.stays("a - (" * depth + "c" + " - a)" * depth, "a * (c + " * depth + "a" + ")" * depth, "-(a - " * depth + "c" + ")" * depth)
            self.stays("(" * depth + "a" + " else c)" * depth, "not (d and " * depth + "e" + ")" * depth)
        self.stays("-" * 76 + "a", "not " * 76 + "d", "if d then a else " * 12 + "c", "if d then " * 12 + "a" + " else c" * 12)

    def test_a_line_of_80_tokens(self):
        for expression in ("a - (" * 15 + "a - c" + ")" * 15 + " - 1", "-" * 76 + "a", " + ".join(["a"] * 39)):
            self.assertLessEqual(len(second_tokens(f"with n = {expression}")), 80)
            self.stays(expression)


class Drawn(unittest.TestCase):
    def test_the_same_form_with_no_parentheses_too_many(self):
        for seed in range(700):
            draw = Draw(seed)
            columns = [tuple(part.split(":")) for part in TABLE[:-1].split(",")]
            line = f"with n = {draw.expression(draw.one(*SORTS.values()), columns, 4)}"
            try:
                form = second_step(line)
            except Wrong:
                continue
            if isinstance(judged(line + "\n", TABLE), list):
                continue
            told = written(line)
            self.assertEqual(second_step(told), form, line)
            self.assertEqual(told, second_line(form), line)
            self.assertEqual(self.without_a_pair(told, form), [], line)

    def without_a_pair(self, line, form):
        """The lines of the same form that leave out one pair of the parentheses."""
        # signs within texts are no parentheses
        bare = re.sub(r'"(\\.|[^"\\])*"', lambda found: "_" * len(found[0]), line)
        opened, found = [], []
        for place, sign in enumerate(bare):
            if sign == "(":
                opened.append(place)
            if sign == ")":
                start = opened.pop()
                shorter = line[:start] + " " + line[start + 1:place] + " " + line[place + 1:]
                try:
                    found += [shorter] if second_step(shorter) == form else []
                except Wrong:
                    pass
        return found


if __name__ == "__main__":
    unittest.main()
