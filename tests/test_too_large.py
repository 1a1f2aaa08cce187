"""What is too large: numbers of 10^400, texts of 1,001 bytes, 401 rows; and what is refused ahead of it."""

import unittest

from tests.helper import ran, rows_of

TOO_LARGE = [9, 6]
LIMIT = 10 ** 400
HALF = 10 ** 200
ONE_ROW = "a:whole\n1\n"
NO_ROWS = "a:whole\n"


def value(expression, table=ONE_ROW):
    told = ran(f"with n = {expression}\nkeep n\n", table)
    return told.split("\n")[1] if isinstance(told, str) else told


def column(name, sort, cells):
    return f"{name}:{sort}\n" + "".join(str(cell) + "\n" for cell in cells)


class Case(unittest.TestCase):
    def check(self, given):
        for expression, told in given.items():
            self.assertEqual(value(expression), told, expression[:60])


class Wholes(Case):
    def test_just_below_and_the_limit_itself(self):
        self.check({
            f"{LIMIT - 1}": str(LIMIT - 1), f"-{LIMIT - 1}": str(1 - LIMIT), f"{LIMIT - 2} + 1": str(LIMIT - 1), f"{LIMIT - 1} + 0": str(LIMIT - 1),
            f"{LIMIT - 1} + 1": TOO_LARGE, f"1 + {LIMIT - 1}": TOO_LARGE, f"-{LIMIT - 1} - 1": TOO_LARGE, f"-{LIMIT - 2} - 1": str(1 - LIMIT),
            f"{HALF} * {HALF}": TOO_LARGE, f"{HALF} * -{HALF}": TOO_LARGE, f"{HALF} * {HALF - 1}": str(HALF * (HALF - 1)),
            f"{HALF} * -{HALF - 1}": str(-HALF * (HALF - 1)), f"{LIMIT // 10} * 10": TOO_LARGE, f"{LIMIT // 10} * 9": str(LIMIT // 10 * 9),
            f"{LIMIT - 1} * {LIMIT - 1}": TOO_LARGE, f"{LIMIT - 1} - -1": TOO_LARGE, f"{LIMIT - 1} * 1": str(LIMIT - 1), f"0 * {LIMIT - 1}": "0"})

    def test_on_the_way(self):
        self.check({
            f"{LIMIT - 1} + 1 - 1": TOO_LARGE, f"{LIMIT - 1} + (1 - 1)": str(LIMIT - 1), f"0 * ({HALF} * {HALF})": TOO_LARGE,
            f"{HALF} * {HALF} < 1": TOO_LARGE, f"{HALF} * {HALF} == {HALF} * {HALF}": TOO_LARGE, f"none ({LIMIT - 1} + 1)": TOO_LARGE,
            f"({LIMIT - 1} + 1) / 2": TOO_LARGE, f"1 / ({LIMIT - 1} + 1)": TOO_LARGE, f"-({LIMIT - 1} + 1)": TOO_LARGE,
            f"({LIMIT - 1} + 1) / 0": TOO_LARGE})

    def test_in_what_is_not_taken(self):
        big = f"{LIMIT - 1} + 1"
        for expression in (f"if true then 1 else {big}", f"if false then {big} else 1", f"(1 else {big})", f"if {big} < 1 then 1 else 1",
                           f"false and {big} < 1", f"true or {big} < 1", f"{big} < 1 and false", f"not (true or {big} < 1)",
                           f"a / 0 + ({big})", f"(a / 0) * ({big})", f"if true then if true then 1 else {big} else 1"):
            self.assertEqual(value(expression), TOO_LARGE, expression[:40])

    def test_an_operand_that_is_none(self):
        table = "a:whole,b:whole\n1,\n"
        self.assertEqual(value(f"b * {LIMIT - 1}", table), "")
        self.assertEqual(value(f"b + {LIMIT - 1} + {LIMIT - 1}", table), "")
        self.assertEqual(value(f"{LIMIT - 1} + {LIMIT - 1} + b", table), TOO_LARGE)
        self.assertEqual(value(f"{LIMIT - 1} / 0 * 10", table), "")

    def test_of_cells(self):
        for cell, told in ((LIMIT - 1, TOO_LARGE), (LIMIT - 2, str(LIMIT - 1)), (1 - LIMIT, str(2 - LIMIT))):
            self.assertEqual(value("a + 1", column("a", "whole", [cell])), told)
        self.assertEqual(value("a", column("a", "whole", [1 - LIMIT])), str(1 - LIMIT))
        self.assertEqual(value("-a", column("a", "whole", [1 - LIMIT])), str(LIMIT - 1))


class Fractions(Case):
    def test_either_number(self):
        self.check({
            f"{LIMIT - 1}/1 + 1": TOO_LARGE, f"{LIMIT - 2}/1 + 1": f"{LIMIT - 1}/1", f"{LIMIT - 1} + 1/1": TOO_LARGE, f"{LIMIT - 1} + 0/1": f"{LIMIT - 1}/1",
            f"1 / {LIMIT - 1} / 2": TOO_LARGE, f"1 / {LIMIT - 1} / 1": f"1/{LIMIT - 1}", f"1/{HALF} * 1/{HALF}": TOO_LARGE,
            f"1/{HALF} * 1/{HALF - 1}": f"1/{HALF * (HALF - 1)}", f"{HALF}/1 * {HALF}/1": TOO_LARGE, f"{HALF}/1 / {HALF}/1": "1/1",
            f"-1/{LIMIT // 10} / 10": TOO_LARGE, f"-1/{LIMIT // 10} / 3": f"-1/{LIMIT // 10 * 3}", f"{LIMIT - 1} / {LIMIT - 2}": f"{LIMIT - 1}/{LIMIT - 2}",
            f"1/{HALF} + 1/{HALF - 1}": f"{HALF - 1 + HALF}/{HALF * (HALF - 1)}", f"1/{HALF} - 1/{HALF + 1}": TOO_LARGE,
            f"-{LIMIT - 1}/1 - 1": TOO_LARGE, f"{LIMIT - 1}/2 + 1/3": TOO_LARGE, f"{LIMIT - 1} / -1 - 1": TOO_LARGE})

    def test_in_lowest_terms(self):
        self.check({
            f"{HALF}/3 * 3/{HALF}": "1/1", f"{LIMIT - 1}/7 * 7": f"{LIMIT - 1}/1", f"{LIMIT // 10}/1 * 100 / 100": TOO_LARGE,
            f"{LIMIT // 10}/1 / 100 * 100": f"{LIMIT // 10}/1", f"{LIMIT // 10}/7 * 7/10": f"{LIMIT // 100}/1",
            f"1/{LIMIT - 1} + 1/{LIMIT - 1}": f"2/{LIMIT - 1}", f"{LIMIT - 1}/2 + 1/2": f"{LIMIT // 2}/1", f"1/{LIMIT - 1} - 1/{LIMIT - 1}": "0/1", f"{LIMIT - 1}/2 - {LIMIT - 3}/2": "1/1",
            f"{LIMIT - 1} / {LIMIT - 1}": "1/1", f"{LIMIT // 10} / {LIMIT // 100}": "10/1", f"{LIMIT - 1}/4 * 2": f"{LIMIT - 1}/2"})

    def test_comparing_is_no_value_on_the_way(self):
        self.check({f"{LIMIT - 1}/{LIMIT - 2} < {LIMIT - 2}/{LIMIT - 3}": "true", f"{LIMIT - 1} == {LIMIT - 1}/1": "true",
                    f"1/{LIMIT - 1} < 1/{LIMIT - 2}": "true", f"-1/{LIMIT - 1} <= {LIMIT - 1}": "true"})

    def test_in_what_is_not_taken(self):
        self.check({f"(1/2 else {LIMIT - 1} + 1/1)": TOO_LARGE, f"if true then 1/2 else 1/{LIMIT - 1} / 2": TOO_LARGE, f"none (1/{LIMIT - 1} / 2)": TOO_LARGE})


class Texts(Case):
    def test_1000_bytes_and_1001(self):
        whole, half = "x" * 1000, "y" * 500
        self.check({
            f'"{whole}"': f'"{whole}"', f'"{whole}" ++ ""': f'"{whole}"', f'"" ++ "{whole}"': f'"{whole}"', f'"{whole}" ++ "x"': TOO_LARGE,
            f'"x" ++ "{whole}"': TOO_LARGE, f'"{half}" ++ "{half}"': '"' + half + half + '"', f'"{half}" ++ "{half}x"': TOO_LARGE,
            f'"{half}" ++ "{half}" ++ "z"': TOO_LARGE, f'length ("{half}" ++ "{half}")': "1000", f'length ("{half}" ++ "{half}z")': TOO_LARGE,
            f'"{half}" ++ "z" == "{half}"': "false", f'"{whole}" ++ "z" == "{half}"': TOO_LARGE, f'none ("{whole}" ++ "z")': TOO_LARGE,
            f'("x" else "{whole}" ++ "z")': TOO_LARGE, f'if true then "x" else "{whole}" ++ "z"': TOO_LARGE})

    def test_bytes_and_not_signs_are_counted(self):
        for part in (r"\n", r"\"", r"\\"):
            self.assertEqual(value(f'"{part * 500}" ++ "{part * 500}"'), '"' + part * 1000 + '"')
            self.assertEqual(value(f'"{part * 500}" ++ "{part * 501}"'), TOO_LARGE)

    def test_with_none(self):
        self.assertEqual(value('b ++ "' + "x" * 1000 + '"', "a:whole,b:text\n1,\n"), "")


class RowsOfTheExpression(Case):
    def test_a_table_without_rows(self):
        for line in (f"with n = {LIMIT - 1} + 1", f"where {LIMIT - 1} + 1 < a", f'with n = "{"x" * 1000}" ++ "x"', f"with n = {HALF} * {HALF}"):
            self.assertIsInstance(ran(line + "\n", NO_ROWS), str)
            self.assertEqual(ran(line + "\n", ONE_ROW), TOO_LARGE)
            self.assertIsInstance(ran("where false\n" + line + "\n", ONE_ROW), str)
            self.assertIsInstance(ran("part 0 0\n" + line + "\n", ONE_ROW), str)
        self.assertEqual(rows_of(f"with n = {LIMIT - 1} + 1\ngroup: rows as r, sum n as s\n", NO_ROWS), ["0,"])

    def test_a_row_that_is_left_out_behind_it(self):
        table = column("a", "whole", [1, LIMIT - 1])
        for behind in ("where a == 1", "part 0 1", "part 0 0", "minus 0", "keep a\npart 0 1", "where false", "group: rows as r"):
            self.assertEqual(ran(f"with n = a + 1\n{behind}\n".replace("minus 0", "keep a\nminus 0"), table), TOO_LARGE, behind)
        for ahead in ("where a == 1", "part 0 1", "order a\npart 0 1"):
            self.assertEqual(rows_of(f"{ahead}\nwith n = a + 1\n", table), ["1,2"])

    def test_a_row_that_where_itself_leaves_out(self):
        self.assertEqual(ran("where a == 1 and a + 1 == 2\n", column("a", "whole", [1, LIMIT - 1])), TOO_LARGE)
        self.assertEqual(ran("where a + 1 == 2\n", column("a", "whole", [1, LIMIT - 1])), TOO_LARGE)
        self.assertEqual(rows_of("where a + 1 == 2\n", column("a", "whole", [1, LIMIT - 2])), ["1"])

    def test_the_first_and_the_last_row(self):
        for cells in ([LIMIT - 1, 1, 1], [1, LIMIT - 1, 1], [1, 1, LIMIT - 1]):
            self.assertEqual(ran("with n = a + 1\n", column("a", "whole", cells)), TOO_LARGE)


class Sums(unittest.TestCase):
    def sums(self, sort, cells):
        return ran("group: sum a as s\n", column("a", sort, cells))

    def test_at_its_end(self):
        self.assertEqual(self.sums("whole", [LIMIT - 1, 1]), TOO_LARGE)
        self.assertEqual(self.sums("whole", [LIMIT - 2, 1]), f"s:whole\n{LIMIT - 1}\n")
        self.assertEqual(self.sums("whole", [1 - LIMIT, -1]), TOO_LARGE)
        self.assertEqual(self.sums("fraction", [f"{LIMIT - 1}/1", "1/1"]), TOO_LARGE)
        self.assertEqual(self.sums("fraction", [f"1/{HALF}", f"1/{HALF + 1}"]), TOO_LARGE)
        self.assertEqual(self.sums("fraction", [f"{LIMIT - 1}/2", "1/3"]), TOO_LARGE)
        self.assertEqual(self.sums("fraction", [f"{LIMIT - 1}/2", "1/2"]), f"s:fraction\n{LIMIT // 2}/1\n")

    def test_on_its_way_and_not_at_its_end(self):
        self.assertEqual(self.sums("whole", [LIMIT - 1, 1, -1]), f"s:whole\n{LIMIT - 1}\n")
        self.assertEqual(self.sums("whole", [LIMIT - 1] * 3 + [1 - LIMIT] * 3), "s:whole\n0\n")
        self.assertEqual(self.sums("whole", [1 - LIMIT, "", 1 - LIMIT, LIMIT - 1, 5]), f"s:whole\n{6 - LIMIT}\n")
        self.assertEqual(self.sums("fraction", [f"1/{HALF}", f"1/{HALF + 1}", f"-1/{HALF + 1}"]), f"s:fraction\n1/{HALF}\n")
        self.assertEqual(self.sums("fraction", [f"{LIMIT - 1}/1", "1/1", "-1/1"]), f"s:fraction\n{LIMIT - 1}/1\n")
        self.assertEqual(self.sums("fraction", [f"{LIMIT - 1}/2", "1/3", "-1/3"]), f"s:fraction\n{LIMIT - 1}/2\n")

    def test_a_mean_by_itself_alone(self):
        self.assertEqual(ran("group: mean a as m\n", column("a", "whole", [LIMIT - 1] * 3)), f"m:fraction\n{LIMIT - 1}/1\n")
        self.assertEqual(ran("group: mean a as m\n", column("a", "whole", [LIMIT - 1, LIMIT - 2])), TOO_LARGE)
        self.assertEqual(ran("group: mean a as m\n", column("a", "whole", [LIMIT - 1, LIMIT - 3])), f"m:fraction\n{LIMIT - 2}/1\n")
        self.assertEqual(ran("group: mean a as m, sum a as s\n", column("a", "whole", [LIMIT - 1] * 3)), TOO_LARGE)
        self.assertEqual(ran("group: mean a as m\n", column("a", "fraction", [f"1/{LIMIT - 1}", f"1/{LIMIT - 1}"])), f"m:fraction\n1/{LIMIT - 1}\n")
        self.assertEqual(ran("group: mean a as m\n", column("a", "fraction", [f"1/{LIMIT - 1}", "0/1"])), TOO_LARGE)

    def test_other_made_ones_are_never_too_large(self):
        self.assertEqual(rows_of("group: least a as l, greatest a as g, first a as f, last a as z, values a as v\n", column("a", "whole", [LIMIT - 1] * 3)),
                         [f"{LIMIT - 1},{LIMIT - 1},{LIMIT - 1},{LIMIT - 1},3"])

    def test_groups_by_themselves(self):
        table = f"g:whole,a:whole\n1,{LIMIT - 1}\n2,1\n1,0\n2,{LIMIT - 2}\n"
        self.assertEqual(rows_of("group g: sum a as s\n", table), [f"1,{LIMIT - 1}", f"2,{LIMIT - 1}"])
        self.assertEqual(ran("group: sum a as s\n", table), TOO_LARGE)
        self.assertEqual(ran("group g: sum a as s\nwhere g == 2\n", table + "1,1\n"), TOO_LARGE)

    def test_windows_tell_each_sum(self):
        self.assertEqual(ran("window: sum a as s\n", column("a", "whole", [LIMIT - 1, 1, -1])), TOO_LARGE)
        self.assertEqual(rows_of("window: sum a as s\n", column("a", "whole", [LIMIT - 1, -1, 1])),
                         [f"{LIMIT - 1},{LIMIT - 1}", f"-1,{LIMIT - 2}", f"1,{LIMIT - 1}"])
        self.assertEqual(ran("window: sum a as s\n", column("a", "whole", [LIMIT - 1, 1])), TOO_LARGE)
        self.assertEqual(ran("window: sum a as s\npart 0 1\n", column("a", "whole", [LIMIT - 1, 1])), TOO_LARGE)
        self.assertEqual(rows_of("window a: sum a as s\n", column("a", "whole", [LIMIT - 1, 1])), [f"{LIMIT - 1},{LIMIT - 1}", "1,1"])
        self.assertEqual(rows_of("window by a: sum a as s\nkeep s\n", column("a", "whole", [LIMIT - 1, -1])), [f"{LIMIT - 2}", "-1"])
        self.assertEqual(ran("window: sum a as s\n", column("a", "fraction", [f"1/{HALF}", f"1/{HALF + 1}"])), TOO_LARGE)

    def test_many_long_fractions(self):
        # lower numbers that have nothing in common, so that what is on its way grows long
        cells = [f"1/{10 ** 380 + number}" for number in range(1, 12)]
        back = [f"-{cell}" for cell in cells[1:]]
        self.assertEqual(self.sums("fraction", cells + back), f"s:fraction\n{cells[0]}\n")
        self.assertEqual(self.sums("fraction", cells), TOO_LARGE)


class Rows(unittest.TestCase):
    def test_plus_400_rows_and_401(self):
        for one, other in ((400, 0), (200, 200), (399, 1), (1, 399), (0, 400)):
            self.assertEqual(len(rows_of("plus 1\n", column("a", "whole", range(one)), column("a", "whole", range(other)))), 400)
        for one, other in ((400, 1), (201, 200), (1, 400), (400, 400)):
            self.assertEqual(ran("plus 1\n", column("a", "whole", range(one)), column("a", "whole", range(other))), TOO_LARGE)

    def test_join_400_rows_and_401(self):
        ones = column("a", "whole", [1] * 20)
        self.assertEqual(len(rows_of("join 0 on a = a\n", ones)), 400)
        self.assertEqual(len(rows_of("left join 0 on a = a\n", ones)), 400)
        for word in ("join", "left join"):
            self.assertEqual(ran(f"{word} 1 on a = a\n", ones, column("a", "whole", [1] * 21)), TOO_LARGE)
            self.assertEqual(ran(f"{word} 0 on a = a\n", column("a", "whole", [1] * 400)), TOO_LARGE)
            self.assertEqual(len(rows_of(f"{word} 0 on a = a\n", column("a", "whole", range(400)))), 400)
        self.assertEqual(ran("join 0 on a = a\n", column("a", "whole", [1] * 20 + [2])), TOO_LARGE)
        self.assertEqual(len(rows_of("join 1 on a = a\n", column("a", "whole", [1] * 20 + [2]), ones)), 400)
        self.assertEqual(ran("left join 1 on a = a\n", column("a", "whole", [1] * 20 + [2]), ones), TOO_LARGE)

    def test_where_a_later_step_would_take_rows_away(self):
        table = column("a", "whole", [1] * 201)
        for behind in ("distinct", "part 0 1", "where false", "minus 0", "group: rows as n", "part 0 0"):
            self.assertEqual(ran(f"plus 0\n{behind}\n", table), TOO_LARGE)
            self.assertEqual(ran(f"join 0 on a = a\n{behind}\n", table), TOO_LARGE)
            self.assertIsInstance(ran(f"part 0 199\nplus 0\n{behind}\n", table), str)

    def test_400_rows_stay(self):
        table = column("a", "whole", range(400))
        for line in ("order a down", "distinct", "with n = a", "where true", "keep a", "part 0 9999", "group a", "window: number as n"):
            self.assertEqual(len(rows_of(line + "\n", table)), 400)


class Refusals(unittest.TestCase):
    BIG = f"with n = {LIMIT - 1} + a\n"

    def test_each_ahead_of_too_large(self):
        self.assertEqual(ran(self.BIG, ONE_ROW), TOO_LARGE)
        for rule, line in {1: "where", 2: "keep zz", 3: "where a", 4: "with n = 1"}.items():
            self.assertEqual(ran(self.BIG + line + "\n", ONE_ROW), [9, 3, 1, rule])
        self.assertEqual(ran(self.BIG + "distinct", ONE_ROW), [9, 3, 1, 1])
        self.assertEqual(ran(self.BIG, ONE_ROW, "a:whole\n1"), [9, 2, 1, 1])
        self.assertEqual(ran(self.BIG + "where\n", ONE_ROW, "a:whole\n02\n"), [9, 2, 1, 1])
        self.assertEqual(ran(self.BIG + " " * 65537, ONE_ROW), [9, 1])
        self.assertEqual(ran(self.BIG), [9, 1])
        self.assertEqual(ran(self.BIG, *[ONE_ROW] * 8), TOO_LARGE)
        self.assertEqual(ran(self.BIG, *[ONE_ROW] * 9), [9, 1])
        self.assertEqual(ran(self.BIG + "distinct\n" * 39, ONE_ROW), TOO_LARGE)
        self.assertEqual(ran(self.BIG + "distinct\n" * 40, ONE_ROW), [9, 3, 40, 1])
        self.assertEqual(ran(self.BIG, ONE_ROW, "x" * 65537), [9, 1])


if __name__ == "__main__":
    unittest.main()
