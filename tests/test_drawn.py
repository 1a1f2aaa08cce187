"""Drawn questions over drawn tables, held against the second program. The draws are the same each time."""

import random
import unittest

from tests.helper import Wrong, judged, second_columns, second_judge, second_step, write

SORTS = ("whole", "fraction", "text", "truth")
NAMES = tuple("abcdefgh")
TEXTS = ("", "x", "xy", "y", "Z", '"', "\\", "\n", "x y", "~", "aaa")
FRACTIONS = ((0, 1), (1, 1), (2, 1), (-2, 1), (1, 2), (-1, 2), (3, 2), (2, 3), (-7, 3), (5, 6))
ODD_TOKENS = ("a", "zz", "where", "as", ",", ":", "=", "==", "<", "(", ")", "-", "+", "++", "1", "1/2", '"x"', "true", "else", "by",
              "down", "none", "not", "take", "on", "9", "02", "?", "if", "then")


class Draw:
    def __init__(self, seed):
        self.random = random.Random(seed)

    def one(self, *choices):
        return self.random.choice(choices)

    def chance(self, percent):
        return self.random.randrange(100) < percent

    def few(self, draw, least, most):
        return [draw() for _ in range(self.random.randint(least, most))]

    def cell(self, sort):
        if self.chance(20):
            return None
        if sort == "whole":
            return self.one(0, 1, 2, 3, -1, -2, 10, 7)
        if sort == "fraction":
            return self.one(*FRACTIONS)
        return self.one(True, False) if sort == "truth" else tuple(self.one(*TEXTS).encode())

    def columns(self):
        names = self.random.sample(NAMES, self.random.randint(1, 5))
        return [(name, self.one(*SORTS)) for name in names]

    def rows(self, columns, most):
        rows = self.few(lambda: [self.cell(sort) for _, sort in columns], 0, most)
        # rows that are alike shall be there often
        return [self.one(*rows) if self.chance(25) else row for row in rows]

    def tables(self, most=7):
        """Tables as columns and rows; some have the sorts of the first one."""
        first = self.columns()
        drawn = [first] + self.few(self.columns, 0, 2)
        if self.chance(60):
            names = self.random.sample(NAMES, len(first))
            drawn.append([(name, sort) for name, (_, sort) in zip(names, first)])
        return [(columns, self.rows(columns, most)) for columns in drawn]

    def constant(self, sort):
        if sort == "whole":
            return self.one("0", "1", "2", "3", "10")
        if sort == "fraction":
            return self.one("0/1", "1/2", "2/1", "3/2", "7/3")
        if sort == "text":
            return self.one('""', '"x"', '"xy"', '"\\n"', '"\\""', '"y"')
        return self.one("true", "false")

    def expression(self, sort, columns, depth):
        names = [name for name, own in columns if own == sort]
        if depth == 0 or self.chance(15):
            return self.one(*names) if names and self.chance(75) else self.constant(sort)
        text = self.compound(sort, columns, depth - 1)
        return f"({text})" if self.chance(65) else text

    def compound(self, sort, columns, depth):
        def part(wanted):
            return self.expression(wanted, columns, depth)

        def number():
            return part(self.one("whole", "fraction"))

        def other():
            return part(self.one(*SORTS))

        kinds = [lambda: f"if {part('truth')} then {part(sort)} else {part(sort)}", lambda: f"({part(sort)} else {part(sort)})"]
        if sort == "whole":
            kinds += [lambda: f"{part('whole')} {self.one('+', '-', '*')} {part('whole')}"] * 3
            kinds += [lambda: f"-{part('whole')}", lambda: f"length {part('text')}"]
        elif sort == "fraction":
            kinds += [lambda: f"{number()} / {number()}"] * 2 + [lambda: f"-{part('fraction')}"]
            kinds += [lambda: f"{number()} {self.one('+', '-', '*')} {part('fraction')}",
                      lambda: f"{part('fraction')} {self.one('+', '-', '*')} {number()}"]
        elif sort == "text":
            kinds += [lambda: f"{part('text')} ++ {part('text')}"] * 3
        else:
            kinds += [lambda: f"{part('truth')} {self.one('and', 'or')} {part('truth')}"] * 3 + [lambda: f"not {part('truth')}"]
            kinds += [lambda: f"{number()} {self.one('==', '<', '<=')} {number()}"] * 2 + [lambda: f"none {other()}"]
            kinds += [lambda: f"{part('text')} {self.one('==', '<', '<=')} {part('text')}", lambda: f"{part('truth')} == {part('truth')}"]
        return self.one(*kinds)()

    def name_here(self, columns):
        return self.one(*columns)[0]

    def new_name(self):
        return self.one(*NAMES, "n", "m", "x", "y", "z", "k1", "k2", "k3", "s_1")

    def picks(self, columns):
        def pick():
            name = self.name_here(columns)
            return f"{name} as {self.new_name()}" if self.chance(50) else name
        return ", ".join(self.few(pick, 1, 4))

    def keys(self, columns):
        return ", ".join(self.few(lambda: self.name_here(columns) + self.one("", " down"), 1, 3))

    def names(self, columns, least):
        count = min(len(columns), self.random.randint(least, 2))
        return ", ".join(name for name, _ in self.random.sample(columns, count))

    def made(self, columns):
        what = self.one("rows", "values", "sum", "least", "greatest", "mean", "first", "last")
        return (what if what == "rows" else f"{what} {self.name_here(columns)}") + f" as {self.new_name()}"

    def told(self, columns):
        what = self.one("number", "rank", "sum", "before")
        return (what if what in ("number", "rank") else f"{what} {self.name_here(columns)}") + f" as {self.new_name()}"

    def pair(self, columns, other):
        name, sort = self.one(*columns)
        alike = [there for there, own in other if own == sort]
        return f"{name} = {self.one(*alike) if alike else self.name_here(other)}"

    def line(self, columns, others):
        """A step that is often right."""
        word = self.one("where", "where", "keep", "with", "with", "join", "left join", "group", "group", "order", "part", "distinct", "plus",
                        "minus", "window", "window")
        number = self.random.randrange(len(others))
        if word == "where":
            return f"where {self.expression('truth', columns, 3)}"
        if word == "with":
            return f"with {self.new_name()} = {self.expression(self.one(*SORTS), columns, 3)}"
        if word == "keep":
            return f"keep {self.picks(columns)}"
        if word in ("join", "left join"):
            pairs = ", ".join(self.few(lambda: self.pair(columns, others[number]), 1, 2))
            return f"{word} {number} on {pairs}" + (f" take {self.picks(others[number])}" if self.chance(75) else "")
        if word == "order":
            return f"order {self.keys(columns)}"
        if word == "part":
            return f"part {self.random.randrange(4)} {self.random.randrange(8)}"
        if word == "distinct":
            return word
        if word in ("plus", "minus"):
            return f"{word} {number}"
        if word == "group":
            made = ", ".join(self.few(lambda: self.made(columns), 1, 3))
            return f"group {self.names(columns, 1)}" if self.chance(15) else f"group {self.names(columns, 0)}: {made}"
        by = f" by {self.keys(columns)}" if self.chance(75) else ""
        told = ", ".join(self.few(lambda: self.told(columns), 1, 3))
        return f"window {self.names(columns, 0)}{by}: {told}"

    def right_lines(self, others, most):
        """Lines that are right, and the columns behind them."""
        lines, columns = [], others[0]
        for _ in range(self.random.randint(0, most)):
            for _ in range(8):
                line = self.line(columns, others)
                try:
                    columns = second_columns(second_step(line), columns, others)
                except Wrong:
                    continue
                lines.append(line)
                break
        return lines, columns

    def spoilt(self, line):
        tokens = line.replace("(", "( ").replace(")", " )").replace(",", " ,").replace(":", " :").split(" ")
        place = self.random.randrange(len(tokens))
        kind = self.one("out", "twice", "other", "more", "swap")
        if kind == "out":
            del tokens[place]
        elif kind == "twice":
            tokens.insert(place, tokens[place])
        elif kind == "other":
            tokens[place] = self.one(*ODD_TOKENS)
        elif kind == "more":
            tokens.insert(place, self.one(*ODD_TOKENS))
        else:
            other = self.random.randrange(len(tokens))
            tokens[place], tokens[other] = tokens[other], tokens[place]
        return " ".join(tokens)


def question_of(lines):
    return "".join(line + "\n" for line in lines)


class Judged(unittest.TestCase):
    def test_right_questions(self):
        for seed in range(1500):
            draw = Draw(seed)
            tables = draw.tables()
            lines, columns = draw.right_lines([columns for columns, _ in tables], 6)
            told = judged(question_of(lines), *[write(*table) for table in tables])
            self.assertEqual(told, write(columns, [])[:-1], (seed, lines))

    def test_questions_as_they_come(self):
        for seed in range(3000):
            draw = Draw(seed)
            tables = draw.tables()
            others = [columns for columns, _ in tables]
            lines, columns = draw.right_lines(others, 3)
            line = draw.line(columns, others)
            lines.append(draw.spoilt(line) if draw.chance(60) else line)
            question = question_of(lines)
            texts = [write(*table) for table in tables]
            self.assertEqual(judged(question, *texts), second_judge(question, *texts), (seed, question))

    def test_rows_of_signs(self):
        draw = Draw(7)
        table = "a:whole,b:text\n"
        for _ in range(6000):
            signs = "".join(draw.few(lambda: draw.one(*' ab190/"\\n<=+-*(),:_?e'), 1, 9))
            question = draw.one("with n = ", "where a ", "keep a", "group a", "part ", "", "order ") + signs + "\n"
            self.assertEqual(judged(question, table), second_judge(question, table), question)


if __name__ == "__main__":
    unittest.main()
