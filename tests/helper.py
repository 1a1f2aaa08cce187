"""What the tests share: texts as lists of bytes, a writer of tables, and a second program.

The writer and the second program are written from the document alone, in another way than the
program and sharing nothing with it, so that a slip in one of them shows against the other:
tables by patterns, steps by patterns over their tokens, expressions by calls within calls,
numbers by Python's fractions, and rows by plain walks.
"""

import functools
import math
import re
from fractions import Fraction

from tablesteps.tables import judge, read

WORDS = """and as before by distinct down else false first greatest group if join keep last
least left length mean minus none not number on or order part plus rank rows sum take then
true values where window with""".split()

NAME = r"[a-z][a-z0-9_]{0,30}"
COLUMN = re.compile(rf"({NAME}):(whole|fraction|text|truth)")
SIZE = r"(?:0|[1-9][0-9]{0,399})"
WHOLE = rf"(?:-(?!0)|){SIZE}"
TEXT = r'"(?:[ !#-\[\]-~]|\\["\\n]){0,1000}"'
CELLS = {
    "whole": rf"(?:{WHOLE})?",
    "fraction": rf"(?:{WHOLE}/(?!0){SIZE})?",
    "text": rf"(?:{TEXT})?",
    "truth": r"(?:true|false)?",
}
FRACTION = re.compile(r"(?:^|,)-?(\d+)/(\d+)(?=,|$)")


def numbers(text):
    return list(text.encode("latin-1"))


def answer(text):
    return read(numbers(text))


def judged(question, *tables):
    """What judge answers; the columns' line as a text, without its end, if it isn't refused."""
    given = judge(len(tables), numbers(question), [numbers(table) for table in tables])
    return told_text(given)[:-1] if given[0] == 0 else given


def told_text(given):
    assert given[:2] == [0, len(given) - 2], given
    return bytes(given[2:]).decode("latin-1")


def wrong(step, rule):
    return [9, 3, step, rule]


def rows_told(count):
    return [0, count]


def fault(line):
    return [9, 2, line]


def write_cell(cell, sort):
    if cell is None:
        return ""
    if sort == "whole":
        return str(cell)
    if sort == "fraction":
        return f"{cell[0]}/{cell[1]}"
    if sort == "truth":
        return "true" if cell else "false"
    text = bytes(cell).decode("latin-1")
    return '"' + text.replace("\\", "\\\\").replace('"', '\\"').replace("\n", "\\n") + '"'


def write(columns, rows):
    lines = [",".join(f"{name}:{sort}" for name, sort in columns)]
    for row in rows:
        lines.append(",".join(write_cell(cell, sort) for cell, (_, sort) in zip(row, columns)))
    return "".join(line + "\n" for line in lines)


def sorts_of(line):
    found = [COLUMN.fullmatch(part) for part in line.split(",")]
    if not all(found) or len(found) > 32:
        return None
    names = [match[1] for match in found]
    if len(set(names)) < len(names) or set(names) & set(WORDS):
        return None
    return [match[2] for match in found]


def right_row(line, sorts):
    if not re.fullmatch(",".join(CELLS[sort] for sort in sorts), line):
        return False
    bare = re.sub(TEXT, "", line)
    return all(math.gcd(int(up), int(low)) == 1 for up, low in FRACTION.findall(bare))


def second_reader(text):
    """What read answers, worked out by patterns and not byte by byte."""
    if len(text) > 65536:
        return [9, 1]
    *lines, rest = text.split("\n")
    if not lines:
        return fault(0)
    sorts = sorts_of(lines[0])
    if sorts is None:
        return fault(0)
    for number, line in enumerate(lines[1:], start=1):
        if number == 401 or not right_row(line, sorts):
            return fault(number)
    return fault(len(lines)) if rest else rows_told(len(lines) - 1)


class Wrong(Exception):
    """A step that isn't right, by its rule."""


class TooLarge(Exception):
    pass


TOKEN = re.compile(rf"([a-z][a-z0-9_]*)|([0-9]+(?:/[0-9]+)?)|({TEXT})|(==|<=|\+\+|[<+\-*/(),:=])")
NUMBER = re.compile(rf"({SIZE})(?:/({SIZE}))?")
ESCAPES = {'\\"': '"', "\\\\": "\\", "\\n": "\n"}


def plain_text(quoted):
    return re.sub(r"\\.", lambda found: ESCAPES[found[0]], quoted[1:-1])


def second_number(digits):
    match = NUMBER.fullmatch(digits)
    if not match:
        raise Wrong(1)
    if match[2] is None:
        return "whole", int(digits)
    if match[2] == "0" or math.gcd(int(match[1]), int(match[2])) > 1:
        raise Wrong(1)
    return "fraction", Fraction(digits)


def second_tokens(line):
    """Pairs of a shape and a value; the shape of a name is N, of a whole I, of a value V."""
    tokens = []
    place = 0
    line = line.rstrip(" ")
    while place < len(line):
        if line[place] == " ":
            place += 1
            continue
        match = TOKEN.match(line, place)
        if not match:
            raise Wrong(1)
        word, digits, quoted, sign = match.groups()
        if digits:
            sort, value = second_number(digits)
            tokens.append(("I" if sort == "whole" else "V", (sort, value)))
        elif quoted:
            tokens.append(("V", ("text", plain_text(quoted))))
        elif word and re.fullmatch(NAME, word) and word not in WORDS:
            tokens.append(("N", word))
        else:
            tokens.append((word or sign, None))
        place = match.end()
    if len(tokens) > 80:
        raise Wrong(1)
    return tokens


class Form:
    """An expression's form, level by level as the document lists them."""

    def __init__(self, tokens):
        self.tokens = tokens + [("end", None)]
        self.at = 0

    def take(self, *shapes):
        if self.tokens[self.at][0] in shapes:
            self.at += 1
            return self.tokens[self.at - 1][0]
        return None

    def must(self, shape):
        if not self.take(shape):
            raise Wrong(1)

    def expr(self):
        if not self.take("if"):
            return self.chain(("or",), lambda: self.chain(("and",), self.negated))
        condition = self.expr()
        self.must("then")
        first = self.expr()
        self.must("else")
        return ("if", condition, first, self.expr())

    def chain(self, signs, further):
        left = further()
        sign = self.take(*signs)
        while sign:
            left = (sign, left, further())
            sign = self.take(*signs)
        return left

    def negated(self):
        return ("not", self.negated()) if self.take("not") else self.test()

    def test(self):
        left = self.sum()
        sign = self.take("==", "<", "<=")
        return (sign, left, self.sum()) if sign else left

    def sum(self):
        return self.chain(("+", "-", "++"), lambda: self.chain(("*", "/"), self.signed))

    def signed(self):
        sign = self.take("-", "length", "none")
        return (sign, self.signed()) if sign else self.first()

    def first(self):
        shape, value = self.tokens[self.at]
        self.at += 1
        if shape == "N":
            return ("name", value)
        if shape in "IV":
            return ("value",) + value
        if shape in ("true", "false"):
            return ("value", "truth", shape == "true")
        if shape != "(":
            raise Wrong(1)
        inner = self.expr()
        if self.take("else"):
            inner = ("else", inner, self.expr())
        self.must(")")
        return inner


def second_expression(tokens):
    form = Form(tokens)
    tree = form.expr()
    form.must("end")
    return tree


PICKS = "N( as N)?( , N( as N)?)*"
KEYS = "N( down)?( , N( down)?)*"
MADE = "(rows|(values|sum|least|greatest|mean|first|last) N) as N"
TOLD = "(number|rank|(sum|before) N) as N"
SHAPES = [re.compile(shape) for shape in (
    f"keep {PICKS}", f"(left )?join I on N = N( , N = N)*( take {PICKS})?", f"group N( , N)*( : {MADE}( , {MADE})*)?",
    f"group : {MADE}( , {MADE})*", f"order {KEYS}", "part I I", "distinct", "plus I", "minus I",
    f"window( N( , N)*)?( by {KEYS})? : {TOLD}( , {TOLD})*")]


def cut_tokens(tokens, *marks):
    """The rows of tokens between the marks, at most once each, and within them between commas."""
    rows, at = {"": [[]]}, ""
    for shape, value in tokens:
        if shape in marks:
            at = shape
            rows[at] = [[]]
        elif shape == ",":
            rows[at].append([])
        else:
            rows[at][-1].append(value if shape in "INV" else shape)
    return {mark: [row for row in cut if row] for mark, cut in rows.items()}


def second_step(line):
    """The step as a tuple: its word, then what it says."""
    tokens = second_tokens(line)
    shapes = [shape for shape, _ in tokens]
    if shapes[:1] == ["where"]:
        return ("where", second_expression(tokens[1:]))
    if shapes[:3] == ["with", "N", "="]:
        return ("with", tokens[1][1], second_expression(tokens[3:]))
    if not any(shape.fullmatch(" ".join(shapes)) for shape in SHAPES):
        raise Wrong(1)
    if any(value[1] > 9999 for shape, value in tokens if shape == "I"):
        raise Wrong(1)
    word = shapes[0]
    if word in ("left", "join"):
        cut = cut_tokens(tokens[shapes.index("join") + 1:], "on", "take")
        return ("join", word == "left", cut[""][0][0][1], cut["on"], cut.get("take", []))
    if word in ("group", "window"):
        cut = cut_tokens(tokens[1:], "by", ":")
        return (word, [name for name, in cut[""]], cut.get("by", []), cut.get(":", []))
    if word in ("keep", "order"):
        return (word, cut_tokens(tokens[1:])[""])
    return (word,) + tuple(value[1] for _, value in tokens[1:])


def names_in_tree(tree):
    if tree[0] == "name":
        return [tree[1]]
    return [] if tree[0] == "value" else [name for part in tree[1:] for name in names_in_tree(part)]


def rule_of_sorts(right):
    if not right:
        raise Wrong(3)


def second_sort(tree, sorts):
    if tree[0] == "name":
        return sorts[tree[1]]
    if tree[0] == "value":
        return tree[1]
    sign, given = tree[0], [second_sort(part, sorts) for part in tree[1:]]
    if sign == "none":
        return "truth"
    if sign in ("if", "else"):
        rule_of_sorts(given[-1] == given[-2] and (sign == "else" or given[0] == "truth"))
        return given[-1]
    kinds = {"number" if sort in ("whole", "fraction") else sort for sort in given}
    allowed = {"++": ["text"], "length": ["text"], "==": ["number", "text", "truth"], "<": ["number", "text"],
               "<=": ["number", "text"], "not": ["truth"], "and": ["truth"], "or": ["truth"]}.get(sign, ["number"])
    rule_of_sorts(len(kinds) == 1 and kinds <= set(allowed))
    if sign in ("+", "-", "*"):
        return "fraction" if "fraction" in given else "whole"
    return {"/": "fraction", "++": "text", "length": "whole"}.get(sign, "truth")


def new_name(pick):
    return pick[-1]


def second_made_sort(made, sorts):
    what = made[0]
    if what in ("rows", "values", "number", "rank"):
        return "whole"
    sort = sorts[made[1]]
    rule_of_sorts(not (what in ("sum", "mean") and sort in ("text", "truth")))
    rule_of_sorts(not (what in ("least", "greatest") and sort == "truth"))
    return "fraction" if what == "mean" else sort


def names_asked(step):
    """The names of columns here, and those of the other table."""
    word = step[0]
    if word in ("where", "with"):
        return names_in_tree(step[-1]), []
    if word in ("keep", "order"):
        return [row[0] for row in step[1]], []
    if word == "join":
        return [row[0] for row in step[3]], [row[2] for row in step[3]] + [row[0] for row in step[4]]
    if word in ("group", "window"):
        made = [row[1] for row in step[3] if row[0] not in ("rows", "number", "rank")]
        return step[1] + [row[0] for row in step[2]] + made, []
    return [], []


def second_columns(step, columns, others):
    """The columns behind a step, or Wrong; others are the columns of all tables."""
    word = step[0]
    here, there = names_asked(step)
    other = []
    if word in ("join", "plus", "minus"):
        number = step[2] if word == "join" else step[1]
        if number >= len(others):
            raise Wrong(2)
        other = others[number]
    if set(here) - set(dict(columns)) or set(there) - set(dict(other)):
        raise Wrong(2)
    sorts, given = dict(columns), columns
    if word == "where":
        rule_of_sorts(second_sort(step[1], sorts) == "truth")
    elif word == "with":
        given = columns + [(step[1], second_sort(step[2], sorts))]
    elif word == "keep":
        given = [(new_name(row), sorts[row[0]]) for row in step[1]]
    elif word == "join":
        rule_of_sorts(all(sorts[row[0]] == dict(other)[row[2]] for row in step[3]))
        given = columns + [(new_name(row), dict(other)[row[0]]) for row in step[4]]
    elif word in ("plus", "minus"):
        rule_of_sorts([sort for _, sort in columns] == [sort for _, sort in other])
    elif word in ("group", "window"):
        given = [(name, sorts[name]) for name in step[1]] if word == "group" else columns
        given = given + [(new_name(row), second_made_sort(row, sorts)) for row in step[3]]
    if len(given) > 32 or len(dict(given)) < len(given):
        raise Wrong(4)
    return given


def second_asked(question, tables):
    """A refusal, or the steps and the columns before and behind them."""
    if max(map(len, [question, *tables])) > 65536 or not 1 <= len(tables) <= 8:
        return [9, 1]
    for which, table in enumerate(tables):
        told = second_reader(table)
        if told[0] == 9:
            return [9, 2, which, told[2]]
    others = [[tuple(part.split(":")) for part in table.split("\n")[0].split(",")] for table in tables]
    *lines, rest = question.split("\n")
    steps, columns = [], [others[0]]
    for number, line in enumerate(lines + ([rest] if rest else [])):
        if number == 40 or number == len(lines):
            return wrong(number, 1)
        try:
            steps.append(second_step(line))
            columns.append(second_columns(steps[-1], columns[-1], others))
        except Wrong as fault:
            return wrong(number, fault.args[0])
    return steps, columns


def second_judge(question, *tables):
    asked = second_asked(question, tables)
    return asked if isinstance(asked, list) else ",".join(f"{name}:{sort}" for name, sort in asked[1][-1])
