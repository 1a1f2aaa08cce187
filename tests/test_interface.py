"""The interface of the calls: their arguments, what they give back, and what they leave alone."""

import builtins
import contextlib
import inspect
import io
import sys
import unittest
from unittest import mock

from tablesteps.tables import better, judge, read, run, same
from tests.helper import numbers

TEXTS = (
    "", "\n", "a:whole", "a:whole\n", "a:whole\n1\n2\n", "a:whole\n1\n02\n", "a:int\n",
    'a:whole,b:fraction,c:text,d:truth\n-1,-1/2,"x\\n\\\\\\"",true\n,,,\n',
    "a:fraction\n2/4\n", 'a:text\n"x\n', "a:whole\n" + "1\n" * 401, "a:whole\n" + "1" * 65000 + "\n", "1" * 65537,
)
TABLE = 'a:whole,b:fraction,c:text,d:truth\n1,1/2,"x",true\n2,-1/2,"y",false\n,,,\n1,1/2,"x",true\n'
OTHER = 'k:whole,e:text\n1,"u"\n2,"v"\n1,"w"\n'
LINES = (
    "where a < 2", "keep c, a as x", "with n = (a else 5) * 2", "with n = if d then c ++ c else c", "join 1 on a = k take e",
    "left join 1 on a = k take e, k", "group a, d: sum b as s, mean a as m, first c as f, rows as n", "group: least c as l, greatest b as g",
    "order a down, b", "part 1 2", "distinct", "plus 0", "minus 0", "window d by a down: number as n, sum a as s, rank as r, before c as e",
    "where", "where zz", "where a", "with a = 1", "with n = " + "(" * 37 + "a" + ")" * 37, "with n = " + "-" * 76 + "a",
    "with n = " + "if d then " * 15 + "a" + " else a" * 15, "where " + "(" * 79, "where " + "not " * 78 + "d",
    "with n = " + "9" * 400 + " * 10", "plus 0\n" * 30 + "distinct",
    "order a\nwhere d\nwhere none c\norder c", "keep a as c, c as a, d\nkeep d, a\nwhere d\npart 0 3\npart 1 1", "where d\n" * 39 + "where d",
    "join 1 on a = k take e\nwhere d\nwith n = a\nwhere d\ndistinct\ndistinct", "order a\ndistinct\n" * 10 + "where d\n" * 19 + "where d",
)
QUESTIONS = [("", (TABLE, OTHER)), ("distinct", (TABLE, OTHER)), ("x" * 65537, (TABLE,)), ("distinct\n", ()), ("distinct\n", (TABLE,) * 9)]
QUESTIONS += [("distinct\n", (TABLE, "a:whole\n02\n")), ("distinct\n" * 41, (TABLE,))]
QUESTIONS += [(line + "\n", (TABLE, OTHER)) for line in LINES]
ASKING = (judge, run, better)
OTHERS = [("a:whole\n1\n2\n", "a:whole\n2\n1\n"), (TABLE, OTHER), ("a:whole\n1\n1\n2\n", "a:whole\n1\n2\n2\n")]


class Untouched(list):
    """A list that tells at once when it is changed, even for a while."""

    def refuse(self, *parts, **named):
        raise AssertionError("the list that was handed in is changed")

    append = extend = insert = pop = remove = clear = sort = reverse = refuse
    __setitem__ = __delitem__ = __iadd__ = __imul__ = refuse


def calls(kind=list):
    """All calls with fresh lists: the function and its arguments."""
    made = [(read, [kind(numbers(text))]) for text in TEXTS]
    for text, other in [(text, text) for text in TEXTS] + [("a:whole\n1\n2\n", text) for text in TEXTS[:9]] + OTHERS:
        made += [(same, [in_order, kind(numbers(text)), kind(numbers(other))]) for in_order in (0, 1)]
    for function in ASKING:
        for question, tables in QUESTIONS:
            texts = kind([kind(numbers(table)) for table in tables])
            made.append((function, [len(tables), kind(numbers(question)), texts]))
    return made


def answers(made):
    return [function(*arguments) for function, arguments in made]


class Interface(unittest.TestCase):
    def test_the_arguments(self):
        self.assertEqual(list(inspect.signature(read).parameters), ["text"])
        self.assertEqual(read(text=numbers("a:whole\n7\n")), [0, 1])
        self.assertEqual(list(inspect.signature(same).parameters), ["in_order", "table", "other"])
        self.assertEqual(same(in_order=1, table=numbers("a:whole\n7\n"), other=numbers("a:whole\n7\n")), [0, 1])
        self.assertEqual(same(0, other=numbers("a:whole\n7"), table=numbers("a:whole\n7\n")), [9, 2, 1, 1])
        for function in ASKING:
            self.assertEqual(list(inspect.signature(function).parameters), ["n", "question", "tables"])
            given = function(n=1, question=[], tables=[numbers("a:whole\n")])
            self.assertEqual(given, [0, 0] if function is better else [0, 8] + numbers("a:whole\n"))

    def test_a_list_of_ints_is_given_back(self):
        for given in answers(calls()):
            self.assertIs(type(given), list)
            self.assertEqual([type(number) for number in given], [int] * len(given))

    def test_what_is_given_back(self):
        self.assertEqual(read(numbers("a:whole\n")), [0, 0])
        self.assertEqual(read(numbers("a:whole\n1\n2\n")), [0, 2])
        self.assertEqual(read(numbers("a:whole\n1\n02\n")), [9, 2, 2])
        self.assertEqual(read([97] * 65537), [9, 1])
        for function in ASKING:
            table = numbers("a:whole\n")
            told = numbers("distinct\n") if function is better else table
            self.assertEqual(function(1, numbers("distinct\n"), [table]), [0, len(told)] + told)
            self.assertEqual(function(1, numbers("keep zz\n"), [table]), [9, 3, 0, 2])
            self.assertEqual(function(2, numbers("keep zz\n"), [table, [120]]), [9, 2, 1, 0])
            self.assertEqual(function(0, numbers("keep zz\n"), []), [9, 1])

    def test_refused_or_a_text_of_so_many_bytes(self):
        for function, arguments in calls():
            given = function(*arguments)
            if given[0] == 9:
                self.assertIn((given[1], len(given)), ((1, 2), (2, 3 if function is read else 4), (3, 4), (6, 2)))
            else:
                self.assertEqual(given[0], 0)
                self.assertEqual(len(given), 2 if function in (read, same) else given[1] + 2)

    def test_the_lists_are_the_same_afterwards(self):
        made = calls()
        answers(made)
        self.assertEqual(made, calls())

    def test_the_lists_are_not_changed_for_a_while(self):
        self.assertEqual(answers(calls(Untouched)), answers(calls()))

    def test_a_second_call_answers_the_same(self):
        made = calls()
        first = answers(made)
        self.assertEqual(answers(made), first)
        self.assertEqual(answers(reversed(made)), first[::-1])

    def test_nothing_is_kept_between_calls(self):
        alone = answers(calls())
        for (function, arguments), told in zip(calls(), alone):
            for other, others in calls()[::13]:
                other(*others).append(5)
                self.assertEqual(function(*arguments), told)

    def test_nothing_is_printed_read_or_imported(self):
        def refuse(*parts, **named):
            raise AssertionError("something is read or imported")

        out, err = io.StringIO(), io.StringIO()
        made = calls()
        loaded = set(sys.modules)
        with contextlib.redirect_stdout(out), contextlib.redirect_stderr(err), \
                mock.patch.object(builtins, "open", refuse), mock.patch.object(builtins, "input", refuse), \
                mock.patch.object(builtins, "__import__", refuse):
            answers(made)
        self.assertEqual((out.getvalue(), err.getvalue()), ("", ""))
        self.assertEqual(set(sys.modules), loaded)

    def test_few_calls_within_one_another(self):
        made = calls()
        told = answers(made)
        deepest = sys.getrecursionlimit()
        sys.setrecursionlimit(len(inspect.stack()) + 30)
        try:
            again = answers(made)
        finally:
            sys.setrecursionlimit(deepest)
        self.assertEqual(again, told)


if __name__ == "__main__":
    unittest.main()
