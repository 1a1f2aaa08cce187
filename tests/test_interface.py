"""The interface of read: its argument, what it gives back, and what it leaves alone."""

import builtins
import contextlib
import inspect
import io
import sys
import unittest
from unittest import mock

from tablesteps.tables import read
from tests.helper import numbers

TEXTS = (
    "", "\n", "a:whole", "a:whole\n", "a:whole\n1\n2\n", "a:whole\n1\n02\n", "a:int\n",
    'a:whole,b:fraction,c:text,d:truth\n-1,-1/2,"x\\n\\\\\\"",true\n,,,\n',
    "a:fraction\n2/4\n", 'a:text\n"x\n', "a:whole\n" + "1\n" * 401, "a:whole\n" + "1" * 65000 + "\n", "1" * 65537,
)


class Untouched(list):
    """A list that tells at once when it is changed, even for a while."""

    def refuse(self, *parts, **named):
        raise AssertionError("the list that was handed in is changed")

    append = extend = insert = pop = remove = clear = sort = reverse = refuse
    __setitem__ = __delitem__ = __iadd__ = __imul__ = refuse


class Interface(unittest.TestCase):
    def test_the_argument(self):
        self.assertEqual(list(inspect.signature(read).parameters), ["text"])
        self.assertEqual(read(text=numbers("a:whole\n7\n")), [0, 1])

    def test_a_list_of_ints_is_given_back(self):
        for text in TEXTS:
            given = read(numbers(text))
            self.assertIs(type(given), list)
            self.assertEqual([type(number) for number in given], [int] * len(given))

    def test_what_is_given_back(self):
        self.assertEqual(read(numbers("a:whole\n")), [0, 0])
        self.assertEqual(read(numbers("a:whole\n1\n2\n")), [0, 2])
        self.assertEqual(read(numbers("a:whole\n1\n02\n")), [9, 2, 2])
        self.assertEqual(read([97] * 65537), [9, 1])

    def test_the_list_is_the_same_afterwards(self):
        for text in TEXTS:
            handed = numbers(text)
            read(handed)
            self.assertEqual(handed, numbers(text))

    def test_the_list_is_not_changed_for_a_while(self):
        for text in TEXTS:
            self.assertEqual(read(Untouched(numbers(text))), read(numbers(text)))

    def test_a_second_call_answers_the_same(self):
        for text in TEXTS:
            handed = numbers(text)
            first = read(handed)
            self.assertEqual(read(handed), first)

    def test_nothing_is_kept_between_calls(self):
        alone = [read(numbers(text)) for text in TEXTS]
        for one, told in zip(TEXTS, alone):
            for other in TEXTS:
                read(numbers(other)).append(5)
                self.assertEqual(read(numbers(one)), told)

    def test_nothing_is_printed_read_or_imported(self):
        def refuse(*parts, **named):
            raise AssertionError("something is read or imported")

        out, err = io.StringIO(), io.StringIO()
        handed = [numbers(text) for text in TEXTS]
        loaded = set(sys.modules)
        with contextlib.redirect_stdout(out), contextlib.redirect_stderr(err), \
                mock.patch.object(builtins, "open", refuse), mock.patch.object(builtins, "input", refuse), \
                mock.patch.object(builtins, "__import__", refuse):
            for text in handed:
                read(text)
        self.assertEqual((out.getvalue(), err.getvalue()), ("", ""))
        self.assertEqual(set(sys.modules), loaded)

    def test_few_calls_within_one_another(self):
        handed = [numbers(text) for text in TEXTS]
        told = [read(text) for text in handed]
        deepest = sys.getrecursionlimit()
        sys.setrecursionlimit(len(inspect.stack()) + 30)
        try:
            again = [read(text) for text in handed]
        finally:
            sys.setrecursionlimit(deepest)
        self.assertEqual(again, told)


if __name__ == "__main__":
    unittest.main()
