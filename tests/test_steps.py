"""The form of each step, the columns that come of it, and the rules by which it isn't right."""

import unittest

from tests.helper import WORDS, judged, second_judge, wrong

TABLE = "a:whole,b:fraction,c:text,d:truth\n"
OTHER = "k:whole,b:fraction,e:text\n"
ALIKE = "p:whole,q:fraction,r:text,s:truth\n"
COLUMNS = TABLE[:-1]
TABLES = (TABLE, OTHER, ALIKE)

NOT_A_STEP = wrong(0, 1)
NOT_THERE = wrong(0, 2)
SORTS_APART = wrong(0, 3)
NAMES_CLASH = wrong(0, 4)


def step(line):
    return judged(line + "\n", *TABLES)


class Case(unittest.TestCase):
    def check_all(self, lines, told):
        for line in lines:
            self.assertEqual(step(line), told, line)

    def check_columns(self, given):
        for line, columns in given.items():
            self.assertEqual(step(line), columns, line)


class Where(Case):
    def test_columns(self):
        self.check_all(("where d", "where true", "where a < 1", "where (d else false)", "where none c"), COLUMNS)

    def test_rules(self):
        self.check_all(("where", "where where d", "where d d", "where d,", "where d, d", "where: d", "where = d"), NOT_A_STEP)
        self.check_all(("where zz", "where a < zz", "where k == 1", "where e"), NOT_THERE)
        self.check_all(("where a", "where b", "where c", "where 1", 'where "x"', "where a + 1", "where length c",
                        "where if d then a else a", "where (a else a)"), SORTS_APART)


class Keep(Case):
    def test_columns(self):
        self.check_columns({
            "keep a": "a:whole", "keep d, a": "d:truth,a:whole", "keep a as x": "x:whole", "keep a as a": "a:whole",
            "keep a, a as x": "a:whole,x:whole", "keep a as b, b as a": "b:whole,a:fraction", "keep a as d": "d:whole",
            "keep a as c, c as a, b, d": "c:whole,a:text,b:fraction,d:truth", "keep a as x,a as y,a as z": "x:whole,y:whole,z:whole",
            "keep d, c, b, a": "d:truth,c:text,b:fraction,a:whole"})

    def test_rules(self):
        self.check_all(("keep", "keep ,", "keep a,", "keep ,a", "keep a b", "keep a as", "keep as a", "keep a as x y", "keep a,,b",
                        "keep 1", "keep a as 1", "keep a as b as c", "keep (a)", "keep a = b", 'keep "a"', "keep a down",
                        "keep a: b", "keep *", "keep a as where"), NOT_A_STEP)
        self.check_all(("keep zz", "keep a, zz", "keep zz as a", "keep a as x, x", "keep k", "keep a, a, zz"), NOT_THERE)
        self.check_all(("keep a, a", "keep a, b as a", "keep a as b, b", "keep a as x, b as x", "keep a, b, c, a"), NAMES_CLASH)


class With(Case):
    def test_columns(self):
        self.check_columns({
            "with x = a": COLUMNS + ",x:whole", "with x = a / 2": COLUMNS + ",x:fraction",
            "with k = c ++ c": COLUMNS + ",k:text", "with x = none a": COLUMNS + ",x:truth", "with x=(a else 1)": COLUMNS + ",x:whole"})

    def test_rules(self):
        self.check_all(("with", "with x", "with x =", "with = a", "with x a", "with x == a", "with x = a = b", "with x = a,", "with 1 = a",
                        "with x as a", "with x, y = a", "with sum = a", "with x = a, y = b", "with (x) = a"), NOT_A_STEP)
        self.check_all(("with x = zz", "with x = x", "with a = zz", "with x = k"), NOT_THERE)
        self.check_all(("with x = a + c", "with a = a + c", "with a = not a"), SORTS_APART)
        self.check_all(("with a = 1", "with d = d", "with c = a", "with b = 1"), NAMES_CLASH)


class Join(Case):
    def test_columns(self):
        self.check_columns({
            "join 1 on a = k": COLUMNS, "left join 1 on a = k": COLUMNS, "join 0 on a = a": COLUMNS,
            "join 1 on a = k take k": COLUMNS + ",k:whole", "left join 1 on a = k take e, k": COLUMNS + ",e:text,k:whole",
            "join 1 on a = k, b = b take b as f, e as g": COLUMNS + ",f:fraction,g:text",
            "join 0 on d = d, c = c take a as x, a as y": COLUMNS + ",x:whole,y:whole",
            "join 1 on a=k,a=k,c=e take k as k": COLUMNS + ",k:whole", "left join 2 on d = s take s": COLUMNS + ",s:truth"})

    def test_form(self):
        for left in ("", "left "):
            self.check_all([left + line for line in (
                "join", "join 1", "join 1 on", "join on a = k", "join 1 a = k", "join 1 on a", "join 1 on a =", "join 1 on = k",
                "join 1 on a k", "join 1 on a == k", "join 1 on a = k,", "join 1 on a = k b = b", "join 1 on a = k take",
                "join 1 on a = k take k,", "join 1 on a = k take k k", "join 1 on a = k take k as", "join 1 take k",
                "join 1 take k on a = k", "join x on a = k", "join 1/1 on a = k", "join 01 on a = k", "join -1 on a = k",
                "join 10000 on a = k", "join 1 on a = 1", "join 1 on (a = k)", "join 1 on a = k and b = b",
                "join 1 on a = k where d", "join 1 on a < k", "join 1, 2 on a = k", 'join "1" on a = k')], NOT_A_STEP)
        self.check_all(("left", "left left join 1 on a = k", "join left 1 on a = k", "left, join 1 on a = k", "left outer join 1 on a = k",
                        "right join 1 on a = k", "left group a"), NOT_A_STEP)

    def test_not_there(self):
        self.check_all(("join 3 on a = k", "join 9999 on a = k", "left join 3 on a = k", "join 1 on zz = k", "join 1 on a = zz",
                        "join 1 on a = a", "join 1 on k = k", "join 1 on a = k, e = e", "join 1 on a = k take zz",
                        "join 1 on a = k take a", "join 1 on a = k take k as x, x", "join 3 on a = k take a, a"), NOT_THERE)

    def test_sorts_apart(self):
        self.check_all(("join 1 on a = b", "join 1 on b = k", "join 1 on c = k", "join 0 on a = d", "join 1 on a = k, c = b",
                        "left join 1 on d = e", "join 0 on a = b take a"), SORTS_APART)
        for one in "abcd":
            for other in "abcd":
                self.assertEqual(step(f"join 0 on {one} = {other}"), COLUMNS if one == other else SORTS_APART)

    def test_names_clash(self):
        self.check_all(("join 1 on a = k take b", "join 1 on a = k take k as a", "join 1 on a = k take k, e as k",
                        "join 1 on a = k take k, k", "left join 0 on a = a take a", "join 1 on a = k take k as x, e as x"), NAMES_CLASH)


class Group(Case):
    def test_columns(self):
        self.check_columns({
            "group a": "a:whole", "group d, a": "d:truth,a:whole", "group: rows as n": "n:whole", "group :rows as n": "n:whole",
            "group c: sum a as s, rows as n": "c:text,s:whole,n:whole", "group a, b, c, d": COLUMNS,
            "group c: sum a as a": "c:text,a:whole", "group: first a as a, last a as b": "a:whole,b:whole",
            "group a: mean a as m, least a as l": "a:whole,m:fraction,l:whole"})

    def test_the_sort_of_each_made_one(self):
        names = {"a": "whole", "b": "fraction", "c": "text", "d": "truth"}
        for name, sort in names.items():
            for what in ("values", "sum", "least", "greatest", "mean", "first", "last"):
                told = sort
                if what == "values":
                    told = "whole"
                elif what == "mean":
                    told = "fraction"
                if what in ("sum", "mean") and name in "cd" or what in ("least", "greatest") and name == "d":
                    self.assertEqual(step(f"group: {what} {name} as n"), SORTS_APART, (what, name))
                    self.assertEqual(step(f"group {name}: {what} {name} as n"), SORTS_APART, (what, name))
                else:
                    self.assertEqual(step(f"group: {what} {name} as n"), "n:" + told, (what, name))
                    self.assertEqual(step(f"group {name}: {what} {name} as n"), f"{name}:{sort},n:{told}", (what, name))

    def test_form(self):
        self.check_all((
            "group", "group:", "group :", "group a:", "group a,", "group ,a", "group a b", "group a as x", "group a rows as n",
            "group: rows", "group: rows as", "group: rows n", "group: rows a as n", "group: sum as n", "group: sum a", "group: sum a n",
            "group: a as n", "group: rows as n,", "group: rows as n rows as m", "group: rows as n: rows as m", "group a: b",
            "group: number as n", "group: rank as n", "group: before a as n", "group: count a as n", "group: sum (a) as n",
            "group: sum a + 1 as n", "group: sum a as sum", "group 1", "group a by b: rows as n", "group: rows as n, a",
            "group by a", "group (a)", "group a down", "group: sum a, b as n", 'group "a"'), NOT_A_STEP)

    def test_rules(self):
        self.check_all(("group zz", "group a, zz", "group: sum zz as n", "group a: sum c as x, first zz as y", "group k",
                        "group a, a: sum zz as n", "group: rows as n, sum n as m"), NOT_THERE)
        self.check_all(("group: sum c as n", "group a: rows as n, mean d as m", "group a, a: sum c as n", "group: sum c as n, rows as n"),
                       SORTS_APART)
        self.check_all(("group a, a", "group a, b, a", "group a: rows as a", "group: rows as n, sum a as n", "group a: sum b as a",
                        "group c, a: rows as n, first a as c"), NAMES_CLASH)


class Order(Case):
    def test_columns(self):
        self.check_all(("order a", "order a down", "order d, c down, b, a down", "order a, a", "order a, a down", "order d"), COLUMNS)

    def test_rules(self):
        self.check_all(("order", "order a,", "order ,a", "order down", "order a down down", "order a up", "order a b", "order by a",
                        "order down a", "order a as b", "order 1", "order -a", "order a: b", "order (a)", "order a + 1"), NOT_A_STEP)
        self.check_all(("order zz", "order a, zz", "order zz down", "order a, b down, k"), NOT_THERE)


class Part(Case):
    def test_columns(self):
        self.check_all(("part 0 0", "part 1 2", "part 9999 9999", "part 0 9999"), COLUMNS)

    def test_form(self):
        self.check_all(("part", "part 1", "part 1 2 3", "part 1, 2", "part a 1", "part 1 a", "part 1/1 2", "part 1 2/1", "part 01 2", "part 1 02",
                        "part -1 2", "part 1 -2", "part 10000 1", "part 1 10000", "part (1) 2", "part 1/2", 'part "1" 2',
                        "part 1 + 1 2", "part 00 0", "part " + "1" * 400 + " 1", "part 1 " + "1" * 401), NOT_A_STEP)


class Distinct(Case):
    def test_form(self):
        self.check_all(("distinct", " distinct "), COLUMNS)
        self.check_all(("distinct a", "distinct 1", "distinct,", "distinct distinct", "distinct:", "distinct ()"), NOT_A_STEP)


class PlusAndMinus(Case):
    def test_columns(self):
        for word in ("plus", "minus"):
            self.check_all((f"{word} 0", f"{word} 2", f"{word}  2 "), COLUMNS)
            self.assertEqual(judged(f"{word} 0\n", ALIKE, TABLE), ALIKE[:-1])
            self.assertEqual(judged(f"{word} 1\n", ALIKE, TABLE), ALIKE[:-1])

    def test_rules(self):
        for word in ("plus", "minus"):
            self.check_all((f"{word}", f"{word} a", f"{word} 0 1", f"{word} 0, 1", f"{word} 1/1", f"{word} 00", f"{word} -1", f"{word} 10000",
                            f"{word} (0)", f"{word} 0 on a = a", f"{word} 0 0"), NOT_A_STEP)
            self.check_all((f"{word} 3", f"{word} 9999", f"{word} 8"), NOT_THERE)
            self.check_all((f"{word} 1",), SORTS_APART)

    def test_sorts_one_by_one(self):
        sorts = ("whole", "fraction", "text", "truth")
        for word in ("plus", "minus"):
            for one in sorts:
                for other in sorts:
                    told = judged(f"{word} 1\n", f"x:{one}\n", f"y:{other}\n")
                    self.assertEqual(told, f"x:{one}" if one == other else SORTS_APART)
            self.assertEqual(judged(f"{word} 1\n", "x:whole,y:text\n", "x:text,y:whole\n"), SORTS_APART)
            self.assertEqual(judged(f"{word} 1\n", "x:whole,y:text\n", "y:whole,x:text\n"), "x:whole,y:text")
            self.assertEqual(judged(f"{word} 1\n", "x:whole,y:text\n", "x:whole\n"), SORTS_APART)
            self.assertEqual(judged(f"{word} 1\n", "x:whole\n", "x:whole,y:text\n"), SORTS_APART)
            self.assertEqual(judged(f"keep x\n{word} 1\n", "x:whole,y:text\n", "z:whole\n"), "x:whole")


class Window(Case):
    def test_columns(self):
        self.check_columns({
            "window: number as n": COLUMNS + ",n:whole", "window :rank as n": COLUMNS + ",n:whole",
            "window a: number as n": COLUMNS + ",n:whole", "window by a: number as n": COLUMNS + ",n:whole",
            "window a, b by c down, d: sum a as s, before c as t, rank as r, sum b as u":
                COLUMNS + ",s:whole,t:text,r:whole,u:fraction",
            "window a, a by a, a down: number as n": COLUMNS + ",n:whole",
            "window: before a as w, before b as x, before c as y, before d as z": COLUMNS + ",w:whole,x:fraction,y:text,z:truth"})

    def test_form(self):
        self.check_all((
            "window", "window a", "window:", "window a:", "window a by b", "window by: number as n", "window by a:", "window a by b:",
            "window number as n", "window a, : number as n", "window a b: number as n", "window a down: number as n",
            "window by a by b: number as n", "window a: number", "window a: number as", "window a: number n", "window a: number b as n",
            "window a: rows as n", "window a: values a as n", "window a: least a as n", "window a: mean a as n", "window a: first a as n",
            "window: sum as n", "window: before as n", "window: sum a", "window: number as n,", "window: number as n rank as m",
            "window by a as b: number as n", "window: number as n: rank as m", "window: number as rank", "window 1: number as n",
            "window by a, : number as n", "window: a as n", "window by a down down: number as n"), NOT_A_STEP)

    def test_rules(self):
        self.check_all(("window zz: number as n", "window by zz: number as n", "window: sum zz as n", "window: before zz as n",
                        "window: number as n, sum n as m", "window a, zz by b: sum c as n", "window: sum c as n, before zz as m"), NOT_THERE)
        self.check_all(("window: sum c as n", "window: sum d as n", "window a by b: number as a, sum c as m"), SORTS_APART)
        self.check_all(("window: number as a", "window: number as n, rank as n", "window a: before b as b", "window: sum a as a"),
                       NAMES_CLASH)


class Names(Case):
    def test_31_bytes_and_32(self):
        for name in ("n" * 31, "n" + "_" * 30, "n" + "9" * 30):
            for line in ("with {0} = 1", "keep a as {0}", "join 1 on a = k take k as {0}", "group: rows as {0}", "window: number as {0}"):
                self.assertIn(name + ":whole", step(line.format(name)))
                self.assertEqual(step(line.format(name + "x")), NOT_A_STEP)
        for line in ("where {0}", "keep {0}", "with n = {0}", "join 1 on {0} = k", "join 1 on a = {0}", "group {0}", "order {0}", "window {0}: rank as n",
                     "window by {0}: rank as n", "group: sum {0} as n", "window: sum {0} as n", "join 1 on a = k take {0}"):
            self.assertEqual(step(line.format("n" * 31)), NOT_THERE, line)
            self.assertEqual(step(line.format("n" * 32)), NOT_A_STEP, line)

    def test_listed_words_where_a_name_is_asked(self):
        for word in WORDS:
            self.check_all((f"with {word} = 1", f"keep a as {word}", f"keep {word}", f"group: rows as {word}", f"group: sum {word} as n",
                            f"group a, {word}", f"order {word}", f"join 1 on {word} = k", f"join 1 on a = {word}", f"join 1 on a = k take {word}",
                            f"join 1 on a = k take k as {word}", f"window: number as {word}", f"window a, {word}: rank as n",
                            f"window by {word}: rank as n", f"window: before {word} as n"), NOT_A_STEP)

    def test_sorts_are_no_listed_words(self):
        for word in ("whole", "fraction", "text", "truth"):
            self.assertEqual(step(f"keep a as {word}"), word + ":whole")


def wide(count):
    return ",".join(f"c{k}:whole" for k in range(count)) + "\n"


class ManyColumns(unittest.TestCase):
    def test_32_columns_and_33(self):
        for line, more in (("with n = 1", 1), ("join 0 on c0 = c0 take c0 as n", 1), ("left join 0 on c0 = c0 take c0 as n, c1 as m", 2),
                           ("window: number as n", 1), ("window c0 by c1: sum c0 as n, rank as m, before c1 as o", 3)):
            for count in range(28, 33):
                told = judged(line + "\n", wide(count))
                if count + more > 32:
                    self.assertEqual(told, NAMES_CLASH, (line, count))
                else:
                    self.assertEqual(told.count(":"), count + more, (line, count))

    def test_group(self):
        for count in range(28, 33):
            names = ", ".join(f"c{k}" for k in range(count))
            self.assertEqual(judged(f"group {names}\n", wide(32)).count(":"), count)
            for more in (1, 2, 3):
                made = ",".join(f"rows as n{k}" for k in range(more))
                told = judged(f"group {names}: {made}\n", wide(32))
                tokens = 1 + 2 * count + 4 * more - 1
                if tokens > 80:
                    self.assertEqual(told, NOT_A_STEP)
                elif count + more > 32:
                    self.assertEqual(told, NAMES_CLASH)
                else:
                    self.assertEqual(told.count(":"), count + more)

    def test_keep(self):
        names = [f"c{k}" for k in range(32)]
        self.assertEqual(judged("keep " + ",".join(names) + "\n", wide(32)).count(":"), 32)
        self.assertEqual(judged("keep " + ",".join(names + ["c0 as n"]) + "\n", wide(32)), NAMES_CLASH)
        self.assertEqual(judged("keep " + ",".join(names[1:] + ["c0 as n"]) + "\n", wide(32)).count(":"), 32)

    def test_too_many_come_behind_the_other_rules(self):
        self.assertEqual(judged("with n = zz\n", wide(32)), NOT_THERE)
        self.assertEqual(judged('with n = c0 + "x"\n', wide(32)), SORTS_APART)
        self.assertEqual(judged("with n =\n", wide(32)), NOT_A_STEP)
        self.assertEqual(judged("window: sum zz as n\n", wide(32)), NOT_THERE)


class LeastRule(unittest.TestCase):
    def test_of_one_step_the_least(self):
        for line, rule in (
                ("where zz + d d", 1), ("with a = zz <", 1), ("keep zz, a, a as 1", 1), ("join 9 on a = b take a, a 1", 1),
                ("where zz + d", 2), ("where d + zz", 2), ("where d + 1 == zz", 2), ("with a = zz", 2), ("with a = d + zz", 2),
                ("keep a, a, zz", 2), ("join 9 on a = b take a, a", 2), ("join 1 on d = k take zz", 2), ("join 1 on d = k, zz = k take k, k", 2),
                ("group a, a: sum d as x, sum zz as x", 2), ("window a by zz: sum d as a", 2), ("window zz: sum d as a", 2),
                ("with a = d + 1", 3), ("join 1 on d = k take k, k", 3), ("join 1 on d = k take b", 3), ("group a, a: sum d as x", 3),
                ("group a: sum d as a", 3), ("window: number as a, sum d as n", 3), ("where a", 3),
                ("with a = 1", 4), ("join 1 on a = k take k, k", 4), ("group a, a: sum b as x", 4), ("window: number as a, sum b as n", 4)):
            self.assertEqual(judged(line + "\n", *TABLES), wrong(0, rule), line)
            self.assertEqual(second_judge(line + "\n", *TABLES), wrong(0, rule), line)


if __name__ == "__main__":
    unittest.main()
