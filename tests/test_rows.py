"""The rows that come of each step, row by row and in order."""

import unittest

from tests.helper import ran, rows_of

TABLE = 'a:whole,b:text\n1,"x"\n2,"y"\n3,"x"\n,"y"\n'
EMPTY = "a:whole,b:text\n"
ONE = 'a:whole,b:text\n5,"q"\n'


def rows(question, *tables):
    return rows_of(question + "\n", *tables)


def column(name, sort, *cells):
    return f"{name}:{sort}\n" + "".join(cell + "\n" for cell in cells)


class Example(unittest.TestCase):
    def test_the_documents_example(self):
        for question, told in (
                ("group b: sum a as s, rows as n", 'b:text,s:whole,n:whole\n"x",4,2\n"y",2,2\n'),
                ("where a < 3", 'a:whole,b:text\n1,"x"\n2,"y"\n'),
                ("window b by a: number as k", 'a:whole,b:text,k:whole\n1,"x",1\n2,"y",2\n3,"x",2\n,"y",1\n'),
                ("order a down", 'a:whole,b:text\n3,"x"\n2,"y"\n1,"x"\n,"y"\n'),
                ("group: mean a as m", "m:fraction\n2/1\n"),
                ("with c = a / 2", 'a:whole,b:text,c:fraction\n1,"x",1/2\n2,"y",1/1\n3,"x",3/2\n,"y",\n'),
                ('order a\nwhere b == "x"', 'a:whole,b:text\n1,"x"\n3,"x"\n'), ('where b == "x"\norder a', 'a:whole,b:text\n1,"x"\n3,"x"\n'),
                ('keep b as c\nwhere c == "x"', 'c:text\n"x"\n"x"\n'), ('where b == "x"\nkeep b as c', 'c:text\n"x"\n"x"\n')):
            self.assertEqual(ran(question + "\n", TABLE), told, question)
        self.assertEqual(ran("", TABLE), TABLE)
        self.assertEqual(ran("", "a:whole"), [9, 2, 0, 0])
        self.assertEqual(ran("", "a:whole\n1"), [9, 2, 0, 1])
        self.assertEqual(ran("where\n", TABLE), [9, 3, 0, 1])
        self.assertEqual(ran("distinct", TABLE), [9, 3, 0, 1])
        self.assertEqual(ran("with a = 1\n", TABLE), [9, 3, 0, 4])
        self.assertEqual(ran('where a < "x"\n', TABLE), [9, 3, 0, 3])

    def test_without_steps_table_0_as_it_was(self):
        table = 'a:whole,b:fraction,c:text,d:truth\n-12,-7/12,"a \\"t\\\\\\n,",true\n,,,\n0,0/1,"",false\n'
        self.assertEqual(ran("", table), table)
        self.assertEqual(ran("", table, TABLE), table)
        self.assertEqual(ran("", EMPTY), EMPTY)


class Where(unittest.TestCase):
    def test_only_where_it_is_true(self):
        self.assertEqual(rows("where a == 2", TABLE), ['2,"y"'])
        self.assertEqual(rows("where not a == 2", TABLE), ['1,"x"', '3,"x"'])
        self.assertEqual(rows("where none a", TABLE), [',"y"'])
        self.assertEqual(rows("where a < 2 or none a", TABLE), ['1,"x"', ',"y"'])
        self.assertEqual(rows("where true", TABLE), TABLE.split("\n")[1:-1])
        self.assertEqual(rows("where false", TABLE), [])
        self.assertEqual(rows("where a / 0 == a / 0", TABLE), [])

    def test_truths_of_a_column(self):
        table = "d:truth,n:whole\ntrue,1\nfalse,2\n,3\ntrue,4\n"
        self.assertEqual(rows("where d", table), ["true,1", "true,4"])
        self.assertEqual(rows("where not d", table), ["false,2"])
        self.assertEqual(rows("where (d else true)", table), ["true,1", ",3", "true,4"])
        self.assertEqual(rows("where d or not d", table), ["true,1", "false,2", "true,4"])

    def test_rows_that_are_alike_stay(self):
        self.assertEqual(rows("where a == 1", column("a", "whole", "1", "2", "1", "1")), ["1", "1", "1"])

    def test_no_rows_and_one(self):
        self.assertEqual(ran("where a < 2\n", EMPTY), EMPTY)
        self.assertEqual(ran("where a < 2\n", ONE), EMPTY)
        self.assertEqual(ran("where a < 9\n", ONE), ONE)


class KeepAndWith(unittest.TestCase):
    def test_keep(self):
        self.assertEqual(ran("keep b\n", TABLE), 'b:text\n"x"\n"y"\n"x"\n"y"\n')
        self.assertEqual(ran("keep b, a\n", ONE), 'b:text,a:whole\n"q",5\n')
        self.assertEqual(ran("keep a as b, b as a\n", ONE), 'b:whole,a:text\n5,"q"\n')
        self.assertEqual(ran("keep a as x, a as y, b as a, a as b\n", ONE), 'x:whole,y:whole,a:text,b:whole\n5,5,"q",5\n')
        self.assertEqual(ran("keep b\n", EMPTY), "b:text\n")

    def test_with(self):
        self.assertEqual(ran("with c = a + 1\n", TABLE), 'a:whole,b:text,c:whole\n1,"x",2\n2,"y",3\n3,"x",4\n,"y",\n')
        self.assertEqual(ran("with c = true\nwith d = c\n", ONE), 'a:whole,b:text,c:truth,d:truth\n5,"q",true,true\n')
        self.assertEqual(ran("with c = a + 1\n", EMPTY), "a:whole,b:text,c:whole\n")


class Join(unittest.TestCase):
    HERE = "k:whole,n:text\n1,\"a\"\n2,\"b\"\n,\"c\"\n3,\"d\"\n1,\"e\"\n"
    THERE = "k:whole,v:text\n1,\"p\"\n3,\"q\"\n1,\"r\"\n,\"s\"\n"

    def test_row_by_row_in_the_others_order(self):
        self.assertEqual(rows("join 1 on k = k take v", self.HERE, self.THERE),
                         ['1,"a","p"', '1,"a","r"', '3,"d","q"', '1,"e","p"', '1,"e","r"'])

    def test_left_join(self):
        self.assertEqual(rows("left join 1 on k = k take v", self.HERE, self.THERE),
                         ['1,"a","p"', '1,"a","r"', '2,"b",', ',"c",', '3,"d","q"', '1,"e","p"', '1,"e","r"'])
        self.assertEqual(rows("left join 1 on k = k take v, k as j", self.HERE, "k:whole,v:text\n"),
                         ['1,"a",,', '2,"b",,', ',"c",,', '3,"d",,', '1,"e",,'])

    def test_without_take(self):
        self.assertEqual(ran("join 1 on k = k\n", self.HERE, self.THERE),
                         'k:whole,n:text\n1,"a"\n1,"a"\n3,"d"\n1,"e"\n1,"e"\n')
        self.assertEqual(rows("left join 1 on k = k", self.HERE, self.THERE), ['1,"a"', '1,"a"', '2,"b"', ',"c"', '3,"d"', '1,"e"', '1,"e"'])

    def test_take_by_other_names(self):
        self.assertEqual(ran("join 1 on k = k take v as k2, k as v, v as w\n", self.HERE, self.THERE),
                         'k:whole,n:text,k2:text,v:whole,w:text\n1,"a","p",1,"p"\n1,"a","r",1,"r"\n3,"d","q",3,"q"\n'
                         '1,"e","p",1,"p"\n1,"e","r",1,"r"\n')

    def test_none_is_never_the_same(self):
        for one in ("whole", "fraction", "text", "truth"):
            table = column("a", one, "", "")
            self.assertEqual(rows("join 0 on a = a", table), [])
            self.assertEqual(rows("left join 0 on a = a take a as b", table), [",", ","])
        here, there = "a:whole,b:whole\n1,\n,2\n1,2\n,\n", "a:whole,b:whole,c:whole\n1,,5\n,2,6\n1,2,7\n,,8\n"
        self.assertEqual(rows("join 1 on a = a, b = b take c", here, there), ["1,2,7"])
        self.assertEqual(rows("left join 1 on a = a, b = b take c", here, there), ["1,,", ",2,", "1,2,7", ",,"])

    def test_several_pairs(self):
        here, there = "a:whole,b:text\n1,\"x\"\n1,\"y\"\n2,\"x\"\n", "c:text,d:whole,e:whole\n\"x\",1,10\n\"x\",2,20\n\"y\",2,30\n\"x\",1,40\n"
        self.assertEqual(rows("join 1 on a = d, b = c take e", here, there), ['1,"x",10', '1,"x",40', '2,"x",20'])
        self.assertEqual(rows("join 1 on b = c, a = d take e", here, there), ['1,"x",10', '1,"x",40', '2,"x",20'])
        self.assertEqual(rows("join 1 on a = d, a = d take e", here, there),
                         ['1,"x",10', '1,"x",40', '1,"y",10', '1,"y",40', '2,"x",20', '2,"x",30'])
        same = "a:whole,b:whole\n1,1\n1,2\n2,2\n"
        self.assertEqual(rows("join 0 on a = a, a = b take b as c", same), ["1,1,1", "1,2,1", "2,2,2"])
        self.assertEqual(rows("join 0 on a = a, b = a take b as c", same), ["1,1,1", "1,1,2", "2,2,2"])

    def test_with_itself(self):
        self.assertEqual(rows("join 0 on b = b take a as c", TABLE),
                         ['1,"x",1', '1,"x",3', '2,"y",2', '2,"y",', '3,"x",1', '3,"x",3', ',"y",2', ',"y",'])
        self.assertEqual(rows("where a == 1\njoin 0 on b = b take a as c", TABLE), ['1,"x",1', '1,"x",3'])

    def test_each_sort(self):
        for sort, one, other in (("whole", "1", "-1"), ("fraction", "1/2", "2/1"), ("text", '"x"', '""'), ("truth", "true", "false")):
            here, there = column("a", sort, one, other, one), f"a:{sort},n:whole\n{other},1\n{one},2\n"
            self.assertEqual(rows("join 1 on a = a take n", here, there), [one + ",2", other + ",1", one + ",2"])

    def test_no_rows(self):
        self.assertEqual(ran("join 1 on a = a take b as c\n", EMPTY, TABLE), "a:whole,b:text,c:text\n")
        self.assertEqual(ran("join 1 on a = a take b as c\n", TABLE, EMPTY), "a:whole,b:text,c:text\n")
        self.assertEqual(ran("left join 1 on a = a take b as c\n", EMPTY, TABLE), "a:whole,b:text,c:text\n")


class Group(unittest.TestCase):
    def test_groups_in_the_order_of_their_first_rows(self):
        table = column("a", "text", '"z"', '"a"', '"z"', "", '"m"', '"a"', "")
        self.assertEqual(rows("group a", table), ['"z"', '"a"', "", '"m"'])
        self.assertEqual(rows("group a: rows as n", table), ['"z",2', '"a",2', ",2", '"m",1'])

    def test_none_is_a_group_of_its_own(self):
        table = "a:whole,b:truth\n1,true\n,true\n1,\n,\n,true\n1,true\n"
        self.assertEqual(rows("group a, b: rows as n", table), ["1,true,2", ",true,2", "1,,1", ",,1"])
        self.assertEqual(rows("group b, a: rows as n", table), ["true,1,2", "true,,2", ",1,1", ",,1"])

    def test_without_columns(self):
        made = "rows as n, values a as v, sum a as s, least a as l, greatest a as g, mean a as m, first a as f, last a as z"
        self.assertEqual(rows(f"group: {made}", column("a", "whole", "3", "", "-5", "4")), ["4,3,2,-5,4,2/3,3,4"])
        self.assertEqual(rows(f"group: {made}", column("a", "whole")), ["0,0,,,,,,"])
        self.assertEqual(rows(f"group: {made}", column("a", "whole", "")), ["1,0,,,,,,"])
        self.assertEqual(rows(f"group: {made}", column("a", "whole", "", "")), ["2,0,,,,,,"])
        self.assertEqual(rows(f"group: {made}", column("a", "whole", "7")), ["1,1,7,7,7,7/1,7,7"])
        self.assertEqual(rows(f"group: {made}", column("a", "fraction", "1/2", "-1/3", "")), ["3,2,1/6,-1/3,1/2,1/12,1/2,"])

    def test_with_columns_of_no_rows(self):
        self.assertEqual(ran("group b: sum a as s\n", EMPTY), "b:text,s:whole\n")
        self.assertEqual(ran("group b\n", EMPTY), "b:text\n")
        self.assertEqual(ran("group: first b as b\n", EMPTY), "b:text\n\n")

    def test_without_made_ones(self):
        self.assertEqual(rows("group b", TABLE), ['"x"', '"y"'])
        self.assertEqual(rows("group b, a", TABLE), ['"x",1', '"y",2', '"x",3', '"y",'])

    def test_over_cells_that_are_none_in_part_and_altogether(self):
        table = "g:text,a:whole\n\"p\",\n\"q\",2\n\"p\",\n\"q\",\n\"q\",-9\n\"r\",\n\"r\",0\n"
        self.assertEqual(rows("group g: values a as v, sum a as s, mean a as m, least a as l, greatest a as k, first a as f, last a as z, rows as n",
                              table), ['"p",0,,,,,,,2', '"q",2,-7,-7/2,-9,2,2,-9,3', '"r",1,0,0/1,0,0,,0,2'])

    def test_first_and_last_of_each_sort(self):
        for sort, one, other in (("whole", "1", "2"), ("fraction", "1/2", "2/1"), ("text", '"x"', '""'), ("truth", "true", "false")):
            self.assertEqual(rows("group: first a as f, last a as l", column("a", sort, one, "", other)), [f"{one},{other}"])
            self.assertEqual(rows("group: first a as f, last a as l", column("a", sort, "", one, "")), [","])

    def test_least_and_greatest_by_order(self):
        made = "group: least a as l, greatest a as g"
        self.assertEqual(rows(made, column("a", "text", '"b"', '"ab"', '"a"', '"~"', '"Z"', "", '"b"')), ['"Z","~"'])
        self.assertEqual(rows(made, column("a", "text", '"x"', '"xx"', '""')), ['"","xx"'])
        self.assertEqual(rows(made, column("a", "fraction", "1/2", "2/3", "-1/2", "-2/3", "3/5")), ["-2/3,2/3"])
        self.assertEqual(rows(made, column("a", "fraction", "10/3", "7/2", "13/4")), ["13/4,7/2"])
        self.assertEqual(rows(made, column("a", "whole", "9", "10", "-9", "-10")), ["-10,10"])

    def test_mean_is_a_fraction(self):
        for cells, told in ((("2", "4"), "3/1"), (("1", "2"), "3/2"), (("0",), "0/1"), (("-1", "1"), "0/1"), (("-1", "-2", "-3", "-4"), "-5/2"),
                            (("1", "", "2", ""), "3/2")):
            self.assertEqual(rows("group: mean a as m", column("a", "whole", *cells)), [told])
        self.assertEqual(rows("group: mean a as m, sum a as s", column("a", "fraction", "1/2", "1/3", "1/6")), ["1/3,1/1"])

    def test_texts_and_fractions_as_groups(self):
        self.assertEqual(rows("group a: rows as n", column("a", "fraction", "1/2", "2/1", "1/2")), ["1/2,2", "2/1,1"])
        self.assertEqual(rows("group a: rows as n", column("a", "text", '""', "", '""', '" "')), ['"",2', ",1", '" ",1'])

    def test_a_group_over_its_own_column(self):
        self.assertEqual(rows("group b: first b as c, values b as v", TABLE), ['"x","x",2', '"y","y",2'])


class Order(unittest.TestCase):
    def test_none_first_and_down_last(self):
        self.assertEqual(rows("order a", column("a", "whole", "2", "", "-3", "10", "", "0")), ["", "", "-3", "0", "2", "10"])
        self.assertEqual(rows("order a down", column("a", "whole", "2", "", "-3", "10", "", "0")), ["10", "2", "0", "-3", "", ""])

    def test_fractions_by_size(self):
        table = column("a", "fraction", "1/2", "2/3", "-1/2", "", "3/5", "-2/3", "0/1", "2/1", "7/4", "-5/1")
        ordered = ["", "-5/1", "-2/3", "-1/2", "0/1", "1/2", "3/5", "2/3", "7/4", "2/1"]
        self.assertEqual(rows("order a", table), ordered)
        self.assertEqual(rows("order a down", table), ordered[::-1])

    def test_texts_byte_by_byte(self):
        table = column("a", "text", '"b"', '"a"', '"ab"', '"aa"', '""', "", '"B"', '"~"', '" "', '"\\n"', '"a\\n"', '"10"', '"9"')
        ordered = ["", '""', '"\\n"', '" "', '"10"', '"9"', '"B"', '"a"', '"a\\n"', '"aa"', '"ab"', '"b"', '"~"']
        self.assertEqual(rows("order a", table), ordered)
        self.assertEqual(rows("order a down", table), ordered[::-1])

    def test_false_before_true(self):
        self.assertEqual(rows("order a", column("a", "truth", "true", "", "false", "true", "false")), ["", "false", "false", "true", "true"])
        self.assertEqual(rows("order a down", column("a", "truth", "true", "", "false", "true")), ["true", "true", "false", ""])

    def test_several_columns(self):
        table = "a:whole,b:text,n:whole\n2,\"x\",1\n1,\"y\",2\n2,\"w\",3\n1,,4\n,\"y\",5\n1,\"x\",6\n"
        self.assertEqual(rows("order a, b", table), [',"y",5', '1,,4', '1,"x",6', '1,"y",2', '2,"w",3', '2,"x",1'])
        self.assertEqual(rows("order a down, b", table), ['2,"w",3', '2,"x",1', '1,,4', '1,"x",6', '1,"y",2', ',"y",5'])
        self.assertEqual(rows("order a, b down", table), [',"y",5', '1,"y",2', '1,"x",6', '1,,4', '2,"x",1', '2,"w",3'])
        self.assertEqual(rows("order b, a", table), ['1,,4', '2,"w",3', '1,"x",6', '2,"x",1', ',"y",5', '1,"y",2'])
        self.assertEqual(rows("order a, a down, b", table), rows("order a, b", table))

    def test_alike_rows_stay_in_their_order(self):
        table = "a:whole,n:whole\n" + "".join(f"{number % 3},{number}\n" for number in range(60))
        for down in ("", " down"):
            told = rows(f"order a{down}", table)
            groups = [[f"{rest},{number}" for number in range(rest, 60, 3)] for rest in range(3)]
            self.assertEqual(told, sum(groups[::-1] if down else groups, []))
        self.assertEqual(rows("order a", "a:whole,n:whole\n,2\n1,5\n,1\n1,4\n"), [",2", ",1", "1,5", "1,4"])
        self.assertEqual(rows("order a down", "a:whole,n:whole\n,2\n1,5\n,1\n1,4\n"), ["1,5", "1,4", ",2", ",1"])

    def test_every_number_of_rows(self):
        for count in range(40):
            numbers = [number * 7919 % 101 for number in range(count)]
            table = column("a", "whole", *map(str, numbers))
            self.assertEqual(rows("order a", table), [str(number) for number in sorted(numbers)])
        numbers = [number * 7919 % 401 for number in range(400)]
        self.assertEqual(rows("order a", column("a", "whole", *map(str, numbers))), [str(number) for number in sorted(numbers)])


class Part(unittest.TestCase):
    def test_parts(self):
        table = column("a", "whole", *"0123456789")
        for skipped in (0, 1, 5, 9, 10, 11, 9999):
            for most in (0, 1, 2, 5, 10, 11, 9999):
                self.assertEqual(rows(f"part {skipped} {most}", table), list("0123456789")[skipped:][:most])
        self.assertEqual(ran("part 0 5\n", EMPTY), EMPTY)
        self.assertEqual(rows("part 2 5\npart 1 2", table), ["3", "4"])


class Distinct(unittest.TestCase):
    def test_of_rows_that_are_the_same_the_first(self):
        table = "a:whole,b:text\n1,\"x\"\n1,\n,\"x\"\n1,\"x\"\n,\n1,\n,\n2,\"x\"\n,\"x\"\n"
        self.assertEqual(rows("distinct", table), ['1,"x"', "1,", ',"x"', ",", '2,"x"'])
        self.assertEqual(ran("distinct\n", EMPTY), EMPTY)
        self.assertEqual(ran("distinct\n", ONE), ONE)
        self.assertEqual(rows("keep b\ndistinct", TABLE), ['"x"', '"y"'])
        self.assertEqual(rows("distinct", column("a", "fraction", "1/2", "2/1", "1/2", "")), ["1/2", "2/1", ""])
        self.assertEqual(rows("distinct", column("a", "truth", "true", "", "false", "true", "")), ["true", "", "false"])


class PlusAndMinus(unittest.TestCase):
    OTHER = "p:whole,q:text\n2,\"y\"\n,\"y\"\n9,\n"

    def test_plus(self):
        self.assertEqual(ran("plus 1\n", TABLE, self.OTHER), TABLE + '2,"y"\n,"y"\n9,\n')
        self.assertEqual(ran("plus 0\n", ONE), ONE + '5,"q"\n')
        self.assertEqual(ran("plus 0\n", EMPTY, TABLE), EMPTY)
        self.assertEqual(ran("plus 1\n", EMPTY, TABLE), TABLE)
        self.assertEqual(ran("plus 1\n", TABLE, EMPTY), TABLE)
        self.assertEqual(rows("where a == 1\nplus 0\nplus 1", TABLE, self.OTHER),
                         ['1,"x"', '1,"x"', '2,"y"', '3,"x"', ',"y"', '2,"y"', ',"y"', "9,"])

    def test_minus(self):
        self.assertEqual(rows("minus 1", TABLE, self.OTHER), ['1,"x"', '3,"x"'])
        self.assertEqual(rows("minus 0", TABLE), [])
        self.assertEqual(ran("minus 1\n", TABLE, EMPTY), TABLE)
        self.assertEqual(ran("minus 1\n", EMPTY, TABLE), EMPTY)
        self.assertEqual(rows("plus 0\nminus 1", TABLE, self.OTHER), ['1,"x"', '3,"x"', '1,"x"', '3,"x"'])
        self.assertEqual(rows("minus 1", "a:whole,b:whole\n,\n1,\n,1\n1,1\n,\n", "a:whole,b:whole\n,\n1,\n"), [",1", "1,1"])


class Window(unittest.TestCase):
    TABLE = "g:text,a:whole,n:whole\n\"p\",3,1\n\"q\",1,2\n\"p\",1,\n\"q\",1,4\n\"p\",,5\n,2,6\n\"p\",1,7\n,,8\n"
    ALL = "number as k, rank as r, sum n as s, before n as e"

    def told(self, line, table=TABLE):
        return [row.split(",", 3)[3] for row in rows(line, table)]

    def test_with_columns_and_by(self):
        self.assertEqual(self.told(f"window g by a: {self.ALL}"),
                         ["4,4,13,7", "1,1,2,", "2,2,5,5", "2,1,6,2", "1,1,5,", "2,2,14,8", "3,2,12,", "1,1,8,"])

    def test_down(self):
        self.assertEqual(self.told(f"window g by a down: {self.ALL}"),
                         ["1,1,1,", "1,1,2,", "2,2,1,1", "2,1,6,2", "4,4,13,7", "1,1,6,", "3,2,8,", "2,2,14,6"])

    def test_with_columns_and_without_by(self):
        self.assertEqual(self.told(f"window g: {self.ALL}"),
                         ["1,1,1,", "1,1,2,", "2,1,1,1", "2,1,6,2", "3,1,6,", "1,1,6,", "4,1,13,5", "2,1,14,6"])

    def test_without_columns(self):
        self.assertEqual(self.told(f"window by a: {self.ALL}"),
                         ["8,8,33,6", "3,3,15,8", "4,3,15,2", "5,3,19,", "1,1,5,", "7,7,32,7", "6,3,26,4", "2,1,13,5"])
        self.assertEqual(self.told(f"window: {self.ALL}"),
                         ["1,1,1,", "2,1,3,1", "3,1,3,2", "4,1,7,", "5,1,12,4", "6,1,18,5", "7,1,25,6", "8,1,33,7"])

    def test_several_keys(self):
        self.assertEqual(self.told("window g by a, n down: number as k, rank as r"), ["4,4", "2,2", "3,3", "1,1", "1,1", "2,2", "2,2", "1,1"])
        self.assertEqual(self.told("window g, a: number as k"), ["1", "1", "1", "2", "1", "1", "2", "1"])

    def test_rows_stay_as_they_stand(self):
        for line in ("window: number as k", "window g by a down: rank as k", "window by n: before g as k"):
            self.assertEqual([row.rsplit(",", 1)[0] for row in rows(line, self.TABLE)], self.TABLE.split("\n")[1:-1])

    def test_rank_where_rows_are_alike(self):
        table = column("a", "whole", "5", "3", "5", "", "3", "3", "9", "")
        self.assertEqual(rows("window by a: rank as r", table), ["5,6", "3,3", "5,6", ",1", "3,3", "3,3", "9,8", ",1"])
        self.assertEqual(rows("window by a down: rank as r", table), ["5,2", "3,4", "5,2", ",7", "3,4", "3,4", "9,1", ",7"])
        self.assertEqual(rows("window: rank as r, number as n", table), [f"{cell},1,{number}" for number, cell in
                                                                         enumerate(["5", "3", "5", "", "3", "3", "9", ""], start=1)])

    def test_sum_and_before_with_none(self):
        table = column("a", "whole", "", "2", "", "-2", "")
        self.assertEqual(rows("window: sum a as s, before a as b", table), [",,", "2,2,", ",2,2", "-2,0,", ",0,-2"])
        table = column("a", "fraction", "", "1/2", "", "1/2", "-1/3")
        self.assertEqual(rows("window: sum a as s, before a as b", table), [",,", "1/2,1/2,", ",1/2,1/2", "1/2,1/1,", "-1/3,2/3,1/2"])
        self.assertEqual(rows("window: sum a as s", column("a", "whole", "", "")), [",", ","])

    def test_before_of_each_sort(self):
        for sort, one, other in (("whole", "1", "2"), ("fraction", "1/2", "2/1"), ("text", '"x"', '""'), ("truth", "true", "false")):
            self.assertEqual(rows("window: before a as b", column("a", sort, one, other, "")), [f"{one},", f"{other},{one}", f",{other}"])

    def test_by_fractions_and_texts(self):
        self.assertEqual(rows("window by a: number as n", column("a", "fraction", "2/3", "3/5", "-1/2")), ["2/3,3", "3/5,2", "-1/2,1"])
        self.assertEqual(rows("window by a: number as n", column("a", "text", '"b"', '"ab"', '"a"')), ['"b",3', '"ab",2', '"a",1'])

    def test_no_rows_and_one(self):
        self.assertEqual(ran("window b by a: number as n\n", EMPTY), "a:whole,b:text,n:whole\n")
        self.assertEqual(ran("window: number as n\n", EMPTY), "a:whole,b:text,n:whole\n")
        self.assertEqual(rows("window b by a: number as n, rank as r, sum a as s, before a as p", ONE), ['5,"q",1,1,5,'])


class Following(unittest.TestCase):
    def test_steps_that_follow_one_another(self):
        for question, told in (
                ("with c = (a else 0)\norder c down\npart 0 2\nkeep c", ["3", "2"]), ("window b by a down: number as k\nwhere k == 1\nkeep a", ["2", "3"]),
                ("group b: sum a as s\njoin 0 on b = b take a\nwhere a == s", ['"y",2,2']), ("group b: sum a as s\ngroup: sum s as t", ["6"]),
                ("keep b\nplus 1\ndistinct", ['"x"', '"y"', '"z"']), ("order a down\ndistinct\norder b\nkeep a", ["3", "1", "2", ""]),
                ("where a < 3\nwhere 1 < a", ['2,"y"']), ("part 1 2\npart 1 9", ['3,"x"']), ("order b\norder a down\nkeep a", ["3", "2", "1", ""]),
                ("keep a as b, b as a\norder a down, b\nkeep b as a, a as b", [',"y"', '2,"y"', '1,"x"', '3,"x"']),
                ("where false\ngroup: rows as n", ["0"]), ("where false\ngroup b: rows as n", []), ("group b\nwindow: number as k", ['"x",1', '"y",2'])):
            self.assertEqual(rows(question, TABLE, 'b:text\n"z"\n"x"\n'), told, question)

    def test_table_k_is_as_it_was_handed_in(self):
        self.assertEqual(rows("where a == 1\nplus 0\nminus 0", TABLE), [])
        self.assertEqual(rows("part 0 1\njoin 0 on b = b take a as c", TABLE), ['1,"x",1', '1,"x",3'])
        self.assertEqual(rows("where false\nplus 0", TABLE), TABLE.split("\n")[1:-1])

    def test_40_steps(self):
        # each time the cells stay or change places by their new names
        self.assertEqual(rows("\n".join(["keep a as b, b as a"] * 39), TABLE), TABLE.split("\n")[1:-1])
        self.assertEqual(rows("\n".join(["keep a as b, b as a"] * 40), TABLE), ['"x",1', '"y",2', '"x",3', '"y",'])
        self.assertEqual(rows("\n".join(f"with c{k} = c{k - 1} * 2" if k else "with c0 = a" for k in range(30)) + "\nkeep c29", TABLE),
                         [str(2 ** 29), str(2 ** 30), str(3 * 2 ** 29), ""])


if __name__ == "__main__":
    unittest.main()
