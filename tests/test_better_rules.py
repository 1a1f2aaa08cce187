"""Better questions: the ten rules, their conditions, which of them comes first, and where."""

import unittest

from tests.helper import bettered, judged, question_of, ran, second_better, second_fits, second_step, wrong

TABLE = "a:whole,b:text,c:whole,d:truth,e:truth\n" + "".join(
    f"{a},{b},{c},{d},{e}\n" for a, b, c, d, e in (
        (1, '"x"', 3, "true", "false"), (2, '"y"', "", "true", "true"), (3, '"x"', 1, "false", ""), ("", '"y"', 2, "", "true"),
        (1, '"x"', 3, "true", "false"), (2, "", 5, "true", "false"), (-1, '"xy"', 3, "true", "")))
OTHER = 'a:whole,b:text,z:truth\n1,"u",true\n2,"v",false\n1,"w",\n'
MARK = " | "

# Expressions that are truths, and in which something may become too large.
UNSURE_TRUTHS = (
    "a + c < 3", "3 < a + c", "a - c < 3", "a * c < 3", "a / c < 3", 'b ++ b == "xx"', "-a < 3", "a < -1", "none (a + c)", "none -a",
    "none (a / c)", 'length (b ++ "x") == 2', "d and a + c < 3", "(d or e) and not (e and a - 1 == c)", "not d == (a * 2 == c)",
    "if d then e else a / 2 < 1/2", "if a + 1 < 3 then d else e", "if d then a + 1 < 3 else e", "(d else a + 1 < 3)", "(a + 1 < 3 else d)",
    "if d then if e then (d else none (1 - c)) else e else d", "none none none none --a", 'none (b ++ (b ++ b) else b)', "2/3 < 1 / 2",
    "a == -0", "1 + 1 == 2",
)
SURE_TRUTHS = (
    "d", "true", "none a", "none b", "none none d", "length b == 2", "not d", "if d then e else not e", "(d else e)", "a == c", "a < c",
    "a <= 2", "b < \"y\"", "d and e", "d or e", "d == e", "a < 1/2", '"+ - * / ++ -1" == b', "(a else c) == 1/3",
    "if not (d and e or none c) then (length b else a) <= 3 else none (if d then a else c)",
)


def lines(text):
    return question_of(text.split(MARK))


class Rules(unittest.TestCase):
    def better_is(self, question, told):
        given = bettered(lines(question), TABLE, OTHER)
        self.assertEqual(given, lines(told), question)
        self.assertEqual(given, second_better(lines(question), TABLE, OTHER), question)
        self.assertEqual(bettered(given, TABLE, OTHER), given, question)
        self.assertEqual(judged(given, TABLE, OTHER), judged(lines(question), TABLE, OTHER), question)
        # nothing is too large in these tables
        self.assertEqual(ran(given, TABLE, OTHER), ran(lines(question), TABLE, OTHER), question)

    def stays(self, question):
        self.better_is(question, question)

    def all_stay(self, *questions):
        for question in questions:
            self.stays(question)


class Example(Rules):
    def test_the_documents_example(self):
        table = "a:whole,b:text\n1,\"x\"\n2,\"y\"\n3,\"x\"\n,\"y\"\n"
        self.assertEqual(bettered('order a\nwhere b == "x"\n', table), 'where b == "x"\norder a\n')
        self.assertEqual(bettered('keep b as c\nwhere c == "x"\n', table), 'where b == "x"\nkeep b as c\n')

    def test_steps_that_no_rule_speaks_of(self):
        for question in ("group b: sum a as s, rows as n", "where a < 3", "window b by a: number as k", "order a down", "group: mean a as m",
                         "with c = a / 2"):
            self.assertEqual(bettered(question + "\n", "a:whole,b:text\n"), question + "\n")

    def test_a_question_without_lines(self):
        self.assertEqual(bettered("", TABLE), "")

    def test_a_question_that_no_rule_fits_is_written_anew(self):
        question = "  where( (a)+1<( 3 ))\nkeep  a  as a ,b as  x\npart 0   7\ngroup x :rows  as n ,sum a as s\norder n   down\n"
        told = "where a + 1 < 3\nkeep a, b as x\npart 0 7\ngroup x: rows as n, sum a as s\norder n down\n"
        self.assertEqual(bettered(question, TABLE), told)
        self.assertEqual(bettered(told, TABLE), told)


class WhereWhere(Rules):
    def test_fits(self):
        self.better_is("where d | where e", "where d and e")
        self.better_is("where d and e | where e", "where d and e and e")
        self.better_is("where d | where e and d", "where d and (e and d)")
        self.better_is("where d or e | where e or d", "where (d or e) and (e or d)")
        self.better_is("where not d | where not e", "where not d and not e")
        self.better_is("where a < 2 | where none b", "where a < 2 and none b")
        self.better_is("where if d then e else d | where if e then d else e", "where (if d then e else d) and (if e then d else e)")
        self.better_is("where (d else e) | where (e else d)", "where (d else e) and (e else d)")

    def test_the_first_where_is_the_first_operand(self):
        self.better_is("where d | where e | where none a", "where d and e and none a")

    def test_only_where_both_are_sure(self):
        self.all_stay("where a + 1 < 3 | where d", "where d | where a + 1 < 3", "where a + 1 < 3 | where -a < 2")
        self.better_is("where d | where a + 1 < 3 | where d | where e", "where d | where a + 1 < 3 | where d and e")

    def test_only_side_by_side(self):
        self.all_stay("where d | part 0 2 | where e", "where d | plus 0 | where e", "where d | group d, e | where e")


class WhereOverOrder(Rules):
    def test_fits(self):
        self.better_is("order a | where d", "where d | order a")
        self.better_is("order a down, b | where a < 2", "where a < 2 | order a down, b")

    def test_only_if_sure(self):
        self.all_stay("order a | where a + 1 < 3", "order a | where -a < 3")

    def test_only_in_this_order(self):
        self.stays("where d | order a")


class WhereOverDistinct(Rules):
    def test_fits(self):
        self.better_is("distinct | where d", "where d | distinct")

    def test_only_if_sure(self):
        self.all_stay("distinct | where a / 2 < 3", "distinct | where a < -3")

    def test_only_in_this_order(self):
        self.stays("where d | distinct")


class WhereOverWith(Rules):
    def test_fits(self):
        self.better_is("with n = a | where d", "where d | with n = a")
        self.better_is("with n = if d then length b else a | where none a", "where none a | with n = if d then length b else a")
        self.better_is("with n = d | where d", "where d | with n = d")

    def test_only_if_the_name_is_not_in_it(self):
        self.all_stay("with n = a | where n < 3", "with n = d | where n", "with n = a | where d and not (e or a < 3 and none n)",
                      "with n = a | where if d then e else none (a else n)", "with n = a | where n == n")

    def test_a_name_within_a_longer_one_or_in_a_text(self):
        self.better_is("with n = a | with nn = a | with n2 = d | where n2", "with n = a | with nn = a | with n2 = d | where n2")
        self.better_is('with n = a | where b == "n"', 'where b == "n" | with n = a')
        self.better_is("with n2 = a | with n = a | where n2 == 1", "with n2 = a | where n2 == 1 | with n = a")

    def test_only_if_both_are_sure(self):
        self.all_stay("with n = a + 1 | where d", "with n = a | where a + 1 < 3", "with n = -a | where d", "with n = a | where -a < 1",
                      "with n = a * 2 | where a - 1 < 3")


class WhereOverKeep(Rules):
    def test_without_as(self):
        self.better_is("keep d, a | where d", "where d | keep d, a")

    def test_with_as(self):
        self.better_is("keep d as x, a as y | where x and y < 3", "where d and a < 3 | keep d as x, a as y")
        self.better_is("keep d as n, d as m, d | where n or m or d", "where d or d or d | keep d as n, d as m, d")
        self.better_is("keep a as n, c | where c == n", "where c == a | keep a as n, c")
        self.better_is('keep a as n | where (n else 3) < 2 and (if none n then "n" else "m") == "n"',
                       'where (a else 3) < 2 and (if none a then "n" else "m") == "n" | keep a as n')

    def test_names_that_change_places(self):
        self.better_is("keep a as c, c as a | where a < c", "where c < a | keep a as c, c as a")
        self.better_is("keep d as e, e as d | where d and not e", "where e and not d | keep d as e, e as d")
        self.better_is("keep a as b, b as a, c as d, d as c | where c and b < d", "where d and a < c | keep a as b, b as a, c as d, d as c")
        self.better_is("keep a as c, c as x | where c < 3", "where a < 3 | keep a as c, c as x")

    def test_over_several_keeps(self):
        # rule 5 comes before rule 8, so the where goes over both of them first
        self.better_is("keep a as x, c as y | keep x as y, y as x | where x < y", "where c < a | keep a as y, c as x")

    def test_only_if_sure(self):
        self.all_stay("keep a | where a + 1 < 3", "keep a as n | where -n < 3")

    def test_only_in_this_order(self):
        self.stays("where d | keep d")


class WhereOverJoin(Rules):
    def test_join_and_left_join(self):
        self.better_is("join 1 on a = a take z | where d", "where d | join 1 on a = a take z")
        self.better_is("left join 1 on a = a take z | where d", "where d | left join 1 on a = a take z")

    def test_without_take(self):
        self.better_is("join 1 on a = a | where d", "where d | join 1 on a = a")
        self.better_is("left join 1 on a = a, b = b | where a < 2", "where a < 2 | left join 1 on a = a, b = b")

    def test_only_if_nothing_taken_is_named(self):
        for join in ("join", "left join"):
            self.all_stay(f"{join} 1 on a = a take z | where z", f"{join} 1 on a = a take z | where d and (e or none z)",
                          f"{join} 1 on a = a take b as n, z as m | where m", f"{join} 1 on a = a take b as n, z as m | where n == b",
                          f"{join} 1 on a = a take a as x | where a == x")

    def test_columns_of_before_that_are_called_as_in_the_other_table(self):
        for join in ("join", "left join"):
            # a and b are names of both tables; taken they are called otherwise
            self.better_is(f"{join} 1 on a = a take z | where a < 2", f"where a < 2 | {join} 1 on a = a take z")
            self.better_is(f"{join} 1 on a = a take b as n, a as m | where b == \"x\" and a == 1",
                           f"where b == \"x\" and a == 1 | {join} 1 on a = a take b as n, a as m")
            self.better_is(f"with z = d | {join} 1 on a = a take z as y | where z", f"with z = d | where z | {join} 1 on a = a take z as y")
        # here z is a column of before, and d the other table's z
        self.better_is("keep a, d as z | join 1 on a = a take z as d | where z", "where d | keep a, d as z | join 1 on a = a take z as d")
        self.stays("keep a, e as z | join 1 on a = a take z as d | where d")

    def test_only_if_sure(self):
        for join in ("join", "left join"):
            self.all_stay(f"{join} 1 on a = a take z | where a + 1 < 3", f"{join} 1 on a = a | where -a < 3")

    def test_only_in_this_order(self):
        self.stays("where d | join 1 on a = a take z")


class OrderOrder(Rules):
    def test_fits(self):
        self.better_is("order a | order b", "order b, a")
        self.better_is("order a, c | order b, d", "order b, d, a, c")

    def test_down(self):
        self.better_is("order a down | order b", "order b, a down")
        self.better_is("order a | order b down", "order b down, a")
        self.better_is("order a down, c, e down | order b down, d", "order b down, d, a down, c, e down")

    def test_columns_in_both(self):
        self.better_is("order a | order a", "order a")
        self.better_is("order a | order a down", "order a down")
        self.better_is("order a down | order a", "order a")
        self.better_is("order a, b | order b, a", "order b, a")
        self.better_is("order a, b down, c | order c, b", "order c, b, a")
        self.better_is("order a, b, c | order b", "order b, a, c")

    def test_one_column_twice(self):
        self.better_is("order b | order a, a", "order a, a, b")
        self.better_is("order b | order a, a down", "order a, a down, b")
        self.better_is("order a, a down, b | order c", "order c, a, a down, b")
        self.better_is("order a, b, a | order a", "order a, b")
        self.better_is("order a, a | order a, a", "order a, a")

    def test_several(self):
        self.better_is("order a | order b | order c", "order c, b, a")
        self.better_is("order a | order b | order a down", "order a down, b")
        self.better_is("order a, b | order c down | order b down, d", "order b down, d, c down, a")


class KeepKeep(Rules):
    def test_fits(self):
        self.better_is("keep a, b, c | keep c, a", "keep c, a")
        self.better_is("keep a | keep a", "keep a")

    def test_as(self):
        self.better_is("keep a as n, b | keep n, b", "keep a as n, b")
        self.better_is("keep a, b | keep a as n, b", "keep a as n, b")
        self.better_is("keep a as n, b as m | keep m, n", "keep b as m, a as n")

    def test_told_anew_twice(self):
        self.better_is("keep a as n, b as m | keep n as x, m as y", "keep a as x, b as y")
        self.better_is("keep a as n, b as m | keep n as m, m as n", "keep a as m, b as n")
        self.better_is("keep a as n | keep n as m | keep m as k", "keep a as k")

    def test_back_to_its_own_name(self):
        self.better_is("keep a as n, b as m | keep n as a, m as b", "keep a, b")
        self.better_is("keep a as b, b as a | keep b as a, a as b", "keep a, b")
        self.better_is("keep a as b, b as a | keep a as b, b as a", "keep b, a")
        self.better_is("keep a as b, b as a | keep a, b", "keep b as a, a as b")

    def test_one_column_several_times(self):
        self.better_is("keep a, a as b | keep a, b", "keep a, a as b")
        self.better_is("keep a as x, a as y | keep y as a, x as b", "keep a, a as b")
        self.better_is("keep a | keep a as x, a as y, a", "keep a as x, a as y, a")


class DistinctDistinct(Rules):
    def test_fits(self):
        self.better_is("distinct | distinct", "distinct")
        self.better_is("distinct | distinct | distinct", "distinct")

    def test_only_side_by_side(self):
        self.all_stay("distinct | order a | distinct", "distinct | plus 0 | distinct", "distinct | keep a | distinct")


class PartPart(Rules):
    def test_fits(self):
        self.better_is("part 1 5 | part 2 2", "part 3 2")
        self.better_is("part 1 5 | part 2 9", "part 3 3")
        self.better_is("part 0 3 | part 0 2", "part 0 2")
        self.better_is("part 0 2 | part 0 3", "part 0 2")
        self.better_is("part 1 4 | part 1 3", "part 2 3")
        self.better_is("part 0 0 | part 0 0", "part 0 0")
        self.better_is("part 1 5 | part 1 0", "part 2 0")

    def test_above_and_equal(self):
        self.better_is("part 1 3 | part 2 5", "part 3 1")
        self.better_is("part 1 3 | part 3 5", "part 4 0")
        self.better_is("part 1 3 | part 4 5", "part 5 0")
        self.better_is("part 1 0 | part 9 9", "part 10 0")
        self.better_is("part 0 9999 | part 9999 9999", "part 9999 0")

    def test_at_9999_and_10000(self):
        self.better_is("part 9998 7 | part 1 3", "part 9999 3")
        self.better_is("part 0 9999 | part 9999 1", "part 9999 0")
        self.better_is("part 9999 9999 | part 0 9999", "part 9999 9999")
        self.better_is("part 5000 9999 | part 4999 9999", "part 9999 5000")
        self.all_stay("part 9998 7 | part 2 3", "part 9999 7 | part 1 3", "part 1 7 | part 9999 3", "part 9999 9999 | part 9999 9999",
                      "part 5000 9999 | part 5000 9999")

    def test_several(self):
        self.better_is("part 1 9 | part 1 9 | part 1 9", "part 3 7")
        self.better_is("part 5000 9 | part 4999 9 | part 1 9", "part 9999 0 | part 1 9")
        self.better_is("part 5000 9 | part 5000 8 | part 1 9", "part 5000 9 | part 5001 7")

    def test_only_side_by_side(self):
        self.stays("part 1 5 | order a | part 1 2")


class Sure(Rules):
    def test_what_is_not_sure(self):
        for truth in UNSURE_TRUTHS:
            self.all_stay(*[f"{first} | where {truth}" for first in (
                "where d", "order a", "distinct", "with n = a", "keep a, b, c, d, e", "join 1 on a = a take z")])
            self.stays(f"where {truth} | where d")
            self.stays(f"with n = {truth} | where d")

    def test_what_is_sure(self):
        for truth in SURE_TRUTHS:
            for first in ("order a", "distinct", "with n = a", "keep a, b, c, d, e", "join 1 on a = a take z"):
                self.better_is(f"{first} | where {truth}", f"where {truth} | {first}")
            self.better_is(f"with n = {truth} | where d", f"where d | with n = {truth}")
            self.assertEqual(bettered(f"where {truth}\nwhere d\n", TABLE).count("\n"), 1)
            self.assertEqual(bettered(f"where d\nwhere {truth}\n", TABLE).count("\n"), 1)

    def test_names_that_are_words_within(self):
        """A column may be called as the program's own words for signs or kinds."""
        table = "negative:truth,whole:whole,text:text,truth:truth,sign:truth,word:fraction,start:truth\n"
        for question, told in (
                ("where negative\nwhere sign\n", "where negative and sign\n"), ("order whole\nwhere truth\n", "where truth\norder whole\n"),
                ("with name = text\nwhere negative and truth\n", "where negative and truth\nwith name = text\n"),
                ("keep negative as sign, text as whole\nwhere sign\n", "where negative\nkeep negative as sign, text as whole\n"),
                ("where word < whole or not negative == start\n", "where word < whole or not negative == start\n")):
            self.assertEqual(bettered(question, table), told)

    def test_a_text_of_signs_is_sure(self):
        self.better_is('order a | where b == "negative" or b == "++"', 'where b == "negative" or b == "++" | order a')


class FirstRuleFirstPlace(Rules):
    def test_two_rules_at_several_places(self):
        # the first rule in the list comes first, though another fits further up
        self.better_is("order a | order b | where d", "where d | order b, a")
        self.better_is("distinct | distinct | where d", "where d | distinct")
        self.better_is("keep a, d | keep d | where d", "where d | keep d")
        self.better_is("order a | where d | where e", "where d and e | order a")

    def test_the_first_rule_decides_what_comes_of_it(self):
        # merged before it goes up: were it first to go up, the parentheses would stand otherwise
        self.better_is("where d | order a | where e | where none a", "where d and (e and none a) | order a")
        # rule 2 before rule 3, with what is under them going up at once
        self.better_is("distinct | where d | order a | where e", "where d and e | distinct | order a")

    def test_the_first_place_of_one_rule(self):
        # the first place first: (d and e) and none a, not d and (e and none a)
        self.better_is("where d | where e | where none a | where none b", "where d and e and none a and none b")
        self.better_is("order a | where d | order b | where e", "where d and e | order b, a")

    def test_the_first_place_where_only_one_can_be(self):
        # of three parts only two can be one: the first two are
        self.better_is("part 1 9 | part 9998 9 | part 2 9", "part 9999 0 | part 2 9")
        self.better_is("part 2 9 | part 9998 9 | part 1 9", "part 2 9 | part 9999 8")

    def test_wheres_of_which_only_two_fit_a_line(self):
        long, short = " or ".join(["d"] * 20), "e"
        self.better_is(f"where {long} | where {short} | where {long}", f"where ({long}) and e | where {long}")
        self.better_is(f"where {short} | where {long} | where {long}", f"where e and ({long}) | where {long}")

    def test_all_rules_one_after_the_other(self):
        self.better_is("keep a, b, d as x, e as y | with n = length b | order a | distinct | left join 1 on a = a take z | where x | where y"
                       " | order n | order a | distinct | distinct | keep a as k, b | keep k as a | part 0 9 | part 1 3",
                       "where d and e | keep a, b, d as x, e as y | with n = length b | order a | distinct | left join 1 on a = a take z"
                       " | order a, n | distinct | keep a | part 1 3")

    def test_one_rule_makes_way_for_another(self):
        self.better_is("order a | distinct | where d | order b", "where d | order a | distinct | order b")
        self.better_is("order a | where d | order b", "where d | order b, a")
        self.better_is("distinct | where d | distinct", "where d | distinct")
        self.better_is("keep a, d | where d | keep a", "where d | keep a")
        self.better_is("keep a, d as n | where n | keep a | distinct | where a < 3 | distinct", "where d and a < 3 | keep a | distinct")
        self.better_is("with n = a | where d | with m = n | where none n | where e", "where d | with n = a | where none n and e | with m = n")
        self.better_is("with n = a | where none n | with m = n | where d | where e", "with n = a | where none n and (d and e) | with m = n")

    def test_what_stands_in_the_way(self):
        self.better_is("order a | part 0 5 | where d | where e", "order a | part 0 5 | where d and e")
        self.better_is("where d | group d, e | order d | where e", "where d | group d, e | where e | order d")
        self.better_is("window: number as n | order n | where d", "window: number as n | where d | order n")
        self.better_is("plus 0 | distinct | where d", "plus 0 | where d | distinct")
        self.better_is("minus 0 | distinct | where d", "minus 0 | where d | distinct")
        self.better_is("order a | where a + 1 < 2 | where d", "order a | where a + 1 < 2 | where d")

    def test_no_rule_fits_in_the_end(self):
        question = "order a | order b | distinct | where d | keep d, a | keep a as n | part 1 2 | part 0 1 | where n < 2 | where none n"
        steps = [second_step(line) for line in bettered(lines(question), TABLE).split("\n")[:-1]]
        self.assertEqual(second_fits(steps), [])


class ManyLines(Rules):
    def test_40_lines_of_one_kind(self):
        for line, told in (
                ("where d", "where " + " and ".join(["d"] * 40)), ("order a", "order a"), ("order a, b down", "order a, b down"),
                ("distinct", "distinct"), ("keep a, b", "keep a, b"), ("part 0 5", "part 0 5"), ("part 1 9", "part 40 0"),
                ("part 1 43", "part 40 4"), ("keep a as b, b as a", "keep b, a")):
            self.better_is(MARK.join([line] * 40), told)

    def test_40_lines_that_no_rule_fits(self):
        for line in ("where a + 1 < 9", "plus 1", "minus 0", "join 1 on a = a", "left join 1 on a = a", "group a, b, c, d, e", "part 9999 1"):
            question = (line + "\n") * 40
            self.assertEqual(bettered(question, TABLE, TABLE), question)

    def test_39_lines_and_another(self):
        self.better_is(MARK.join(["distinct"] * 39 + ["where d"]), "where d | distinct")
        self.better_is(MARK.join(["order a"] * 20 + ["where d"] * 20), "where " + " and ".join(["d"] * 20) + " | order a")
        self.better_is(MARK.join(["order a | where d"] * 20), "where " + " and ".join(["d"] * 20) + " | order a")
        self.better_is(MARK.join([f"with n{k} = a" for k in range(20)] + ["where d"] * 20),
                       MARK.join(["where " + " and ".join(["d"] * 20)] + [f"with n{k} = a" for k in range(20)]))

    def test_renamed_again_and_again(self):
        names = ["a"] + [f"n{k}" for k in range(39)]
        keeps = [f"keep {old} as {new}" for old, new in zip(names, names[1:])]
        self.better_is(MARK.join(keeps + [f"where {names[-1]} < 3"]), f"where a < 3 | keep a as {names[-1]}")


class EightyTokens(Rules):
    def test_wheres(self):
        many = " and ".join(["d"] * 38)
        self.assertEqual(len(("where " + many).split()), 76)
        self.better_is(f"where {many} | where d and e", f"where {many} | where d and e")
        self.better_is(f"where {many} | where not e", f"where {many} and not e")
        self.better_is(f"where {many} | where not not e", f"where {many} and not not e")
        self.stays(f"where {many} | where not not not e")
        self.better_is(f"where {many} | where e == d", f"where {many} and e == d")
        self.stays(f"where {many} | where not e == d")
        self.better_is(f"where {many} and d | where e", f"where {many} and d and e")
        self.stays(f"where {many} and d | where not e")

    def test_parentheses_that_come_are_counted(self):
        many = " or ".join(["d"] * 37)
        # where, 73 tokens, two parentheses, and, e: 78
        self.better_is(f"where {many} | where e", f"where ({many}) and e")
        self.better_is(f"where {many} | where e == d", f"where ({many}) and e == d")
        self.stays(f"where {many} | where not e == d")
        self.better_is(f"where e == d | where {many}", f"where e == d and ({many})")
        self.stays(f"where not e == d | where {many}")

    def test_parentheses_that_go_are_not_counted(self):
        self.better_is("where " + "(" * 39 + "d" + ")" * 39 + " | where e", "where d and e")
        self.better_is(MARK.join(["where " + "(" * 39 + "d" + ")" * 39] * 40), "where " + " and ".join(["d"] * 40))

    def test_39_wheres_and_one_of_two_tokens(self):
        self.better_is(MARK.join(["where d"] * 39 + ["where not e"]), "where " + " and ".join(["d"] * 39) + " | where not e")
        self.better_is(MARK.join(["where not e"] + ["where d"] * 39), "where not e and " + " and ".join(["d"] * 38) + " | where d")

    def order_is(self, first, second, told):
        table = ",".join(f"c{k}:whole" for k in range(32)) + "\n"
        question = f"order {', '.join(first)}\norder {', '.join(second)}\n"
        self.assertEqual(bettered(question, table), told)
        self.assertEqual(second_better(question, table), told)

    def test_orders(self):
        names = [f"c{k}" for k in range(32)]
        first = [name + " down" for name in names[:16]]
        # order, 32 names, 31 commas and 16 times down: 80
        told = f"order {', '.join(names[16:] + first)}\n"
        self.order_is(first, names[16:], told)
        self.assertEqual(len(told.replace(",", " ,").split()), 80)
        second = ["c16 down"] + names[17:]
        self.order_is(first, second, f"order {', '.join(first)}\norder {', '.join(second)}\n")
        # what is in both isn't counted twice
        self.order_is(first + ["c16 down"], names[16:], told)

    def test_keeps(self):
        names, middle, last = ([f"{letter}{k}" for k in range(21)] for letter in "cnx")
        table = ",".join(f"{name}:whole" for name in names) + "\n"

        def keep(olds, news):
            return "keep " + ", ".join(old if old == new else f"{old} as {new}" for old, new in zip(olds, news)) + "\n"

        # keep, 20 names, 20 times as and a name, 19 commas: 80
        told = bettered(keep(names[:20], middle[:20]) + keep(middle[:20], last[:20]), table)
        self.assertEqual(told, keep(names[:20], last[:20]))
        self.assertEqual(len(told.replace(",", " ,").split()), 80)
        # 21 names and 20 times as: 82 (it's always an even number), though each of both lines has 80
        between = middle[:19] + names[19:]
        ends = middle[:1] + last[1:20] + names[20:]
        question = keep(names, between) + keep(between, ends)
        self.assertEqual([len(line.replace(",", " ,").split()) for line in question.split("\n")], [80, 80, 0])
        self.assertEqual(bettered(question, table), question)
        self.assertEqual(second_better(question, table), question)
        # with one column less: 80
        question = keep(names, between) + keep(between[:20], ends[:20])
        self.assertEqual(bettered(question, table), keep(names[:20], ends[:20]))
        # with a name that goes back to its own, and 19 others: 80
        ends = names[:1] + middle[1:19] + last[19:20] + names[20:]
        question = keep(names, between) + keep(between, ends)
        self.assertEqual(bettered(question, table), keep(names, ends))

    def test_a_where_of_80_tokens_goes_up(self):
        many, other = (" and ".join([name] * 40) for name in "dn")
        for first in ("order a", "distinct", "with n = a", "keep d", "join 0 on a = a"):
            self.better_is(f"{first} | where {many}", f"where {many} | {first}")
        self.better_is(f"keep d as n | where {other}", f"where {many} | keep d as n")


class LongerQuestions(Rules):
    def test_names_that_make_it_longer(self):
        name = "n" * 31
        told = bettered(f"keep {name} as a\nwhere {' or '.join(['none a'] * 26)}\n", f"{name}:whole\n")
        self.assertEqual(told, f"where {' or '.join(['none ' + name] * 26)}\nkeep {name} as a\n")

    def test_a_better_question_of_more_than_65536_bytes_is_told(self):
        text = '"' + "x" * 1000 + '"'
        question = question_of([f"with n{k}={'++'.join([text] * 5)}" for k in range(10, 23)] + ['with m="' + "x" * 162 + '"'])
        self.assertEqual(len(question), 65536)
        told = bettered(question, TABLE)
        self.assertEqual(told, question.replace("=", " = ").replace("++", " ++ "))


class Refused(unittest.TestCase):
    def test_too_long(self):
        self.assertEqual(bettered("distinct\n" + " " * 65528, TABLE), [9, 1])
        self.assertEqual(bettered("distinct\n"), [9, 1])
        self.assertEqual(bettered("distinct\n", *[TABLE] * 9), [9, 1])
        self.assertEqual(bettered("distinct\n", *[TABLE] * 8), "distinct\n")
        self.assertEqual(bettered("distinct\n", TABLE, "a" * 65537), [9, 1])

    def test_no_table(self):
        self.assertEqual(bettered("distinct\n", "a:whole"), [9, 2, 0, 0])
        self.assertEqual(bettered("distinct\n", TABLE, "a:whole\n1\n02\n"), [9, 2, 1, 2])

    def test_a_step_that_is_not_right(self):
        self.assertEqual(bettered("where\n", TABLE), wrong(0, 1))
        self.assertEqual(bettered("distinct", TABLE), wrong(0, 1))
        self.assertEqual(bettered("distinct\nkeep zz\n", TABLE), wrong(1, 2))
        self.assertEqual(bettered('where a < "x"\n', TABLE), wrong(0, 3))
        self.assertEqual(bettered("with a = 1\n", TABLE), wrong(0, 4))
        self.assertEqual(bettered("distinct\n" * 41, TABLE), wrong(40, 1))

    def test_a_step_is_judged_before_it_is_moved(self):
        # over the keep, the where would be right
        self.assertEqual(bettered("keep a\nwhere d\n", TABLE), wrong(1, 2))
        self.assertEqual(bettered("keep a as n\nwhere a < 3\n", TABLE), wrong(1, 2))
        self.assertEqual(bettered("distinct\ndistinct\nwhere zz\n", TABLE), wrong(2, 2))
        self.assertEqual(bettered("keep a, b\nkeep a as b, b\n", TABLE), wrong(1, 4))

    def test_the_order_of_refusals(self):
        self.assertEqual(bettered("where\n" + " " * 65536, "a:whole"), [9, 1])
        self.assertEqual(bettered("where\n", *["a:whole"] * 9), [9, 1])
        self.assertEqual(bettered("where\n", TABLE, "a:whole"), [9, 2, 1, 0])
        self.assertEqual(bettered("where\n", "a:whole\n2", "a:whole"), [9, 2, 0, 1])

    def test_nothing_is_too_large(self):
        """better doesn't work anything out."""
        table = "a:whole\n" + "1\n" * 400
        question = "plus 0\nwith n = " + "9" * 400 + " * 10\n"
        self.assertEqual(ran(question, table), [9, 6])
        self.assertEqual(bettered(question, table), question)


if __name__ == "__main__":
    unittest.main()
