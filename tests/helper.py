"""What the tests share: texts as lists of bytes, a writer of tables, a second program, and draws.

The writer and the second program are written from the document alone, in another way than the
program and sharing nothing with it, so that a slip in one of them shows against the other:
tables by patterns, steps by patterns over their tokens, expressions by calls within calls,
numbers by Python's fractions, rows by plain walks, and better questions by all rules at all places.
"""

import functools
import math
import random
import re
from fractions import Fraction

from tablesteps.tables import better, judge, read, run, same

WORDS = """and as before by distinct down else false first greatest group if join keep last
least left length mean minus none not number on or order part plus rank rows sum take then
true values where window with""".split()

NAME = r"[a-z][a-z0-9_]{0,30}"
COLUMN = re.compile(rf"({NAME}):(whole|fraction|text|truth)")
SIZE = r"(?:0|[1-9][0-9]{0,399})"
WHOLE = rf"(?:-(?!0)|){SIZE}"
TEXT = r'"(?:[ !#-\[\]-~]|\\["\\n]){0,1000}"'
CELLS = {
    "whole": rf"(?:{WHOLE})?",
    "fraction": rf"(?:{WHOLE}/(?!0){SIZE})?",
    "text": rf"(?:{TEXT})?",
    "truth": r"(?:true|false)?",
}
FRACTION = re.compile(r"(?:^|,)-?(\d+)/(\d+)(?=,|$)")


def numbers(text):
    return list(text.encode("latin-1"))


def answer(text):
    return read(numbers(text))


def judged(question, *tables):
    """What judge answers; the columns' line as a text, without its end, if it isn't refused."""
    given = judge(len(tables), numbers(question), [numbers(table) for table in tables])
    return told_text(given)[:-1] if given[0] == 0 else given


def ran(question, *tables):
    """What run answers; the table as a text if it isn't refused."""
    given = run(len(tables), numbers(question), [numbers(table) for table in tables])
    return told_text(given) if given[0] == 0 else given


def bettered(question, *tables):
    """What better answers; the question as a text if it isn't refused."""
    given = better(len(tables), numbers(question), [numbers(table) for table in tables])
    return told_text(given) if given[0] == 0 else given


def compared(in_order, table, other):
    """What same answers."""
    return same(in_order, numbers(table), numbers(other))


def rows_of(question, *tables):
    """The rows of what run answers, as the lines of its text."""
    return ran(question, *tables).split("\n")[1:-1]


def told_text(given):
    assert given[:2] == [0, len(given) - 2], given
    return bytes(given[2:]).decode("latin-1")


def wrong(step, rule):
    return [9, 3, step, rule]


def rows_told(count):
    return [0, count]


def fault(line):
    return [9, 2, line]


def write_cell(cell, sort):
    if cell is None:
        return ""
    if sort == "whole":
        return str(cell)
    if sort == "fraction":
        return f"{cell[0]}/{cell[1]}"
    if sort == "truth":
        return "true" if cell else "false"
    text = bytes(cell).decode("latin-1")
    return '"' + text.replace("\\", "\\\\").replace('"', '\\"').replace("\n", "\\n") + '"'


def write(columns, rows):
    lines = [",".join(f"{name}:{sort}" for name, sort in columns)]
    for row in rows:
        lines.append(",".join(write_cell(cell, sort) for cell, (_, sort) in zip(row, columns)))
    return "".join(line + "\n" for line in lines)


def sorts_of(line):
    found = [COLUMN.fullmatch(part) for part in line.split(",")]
    if not all(found) or len(found) > 32:
        return None
    names = [match[1] for match in found]
    if len(set(names)) < len(names) or set(names) & set(WORDS):
        return None
    return [match[2] for match in found]


def right_row(line, sorts):
    if not re.fullmatch(",".join(CELLS[sort] for sort in sorts), line):
        return False
    bare = re.sub(TEXT, "", line)
    return all(math.gcd(int(up), int(low)) == 1 for up, low in FRACTION.findall(bare))


def second_reader(text):
    """What read answers, worked out by patterns and not byte by byte."""
    if len(text) > 65536:
        return [9, 1]
    *lines, rest = text.split("\n")
    if not lines:
        return fault(0)
    sorts = sorts_of(lines[0])
    if sorts is None:
        return fault(0)
    for number, line in enumerate(lines[1:], start=1):
        if number == 401 or not right_row(line, sorts):
            return fault(number)
    return fault(len(lines)) if rest else rows_told(len(lines) - 1)


class Wrong(Exception):
    """A step that isn't right, by its rule."""


class TooLarge(Exception):
    pass


TOKEN = re.compile(rf"([a-z][a-z0-9_]*)|([0-9]+(?:/[0-9]+)?)|({TEXT})|(==|<=|\+\+|[<+\-*/(),:=])")
NUMBER = re.compile(rf"({SIZE})(?:/({SIZE}))?")
ESCAPES = {'\\"': '"', "\\\\": "\\", "\\n": "\n"}


def plain_text(quoted):
    return re.sub(r"\\.", lambda found: ESCAPES[found[0]], quoted[1:-1])


def second_number(digits):
    match = NUMBER.fullmatch(digits)
    if not match:
        raise Wrong(1)
    if match[2] is None:
        return "whole", int(digits)
    if match[2] == "0" or math.gcd(int(match[1]), int(match[2])) > 1:
        raise Wrong(1)
    return "fraction", Fraction(digits)


def second_tokens(line):
    """Pairs of a shape and a value; the shape of a name is N, of a whole I, of a value V."""
    tokens = []
    place = 0
    line = line.rstrip(" ")
    while place < len(line):
        if line[place] == " ":
            place += 1
            continue
        match = TOKEN.match(line, place)
        if not match:
            raise Wrong(1)
        word, digits, quoted, sign = match.groups()
        if digits:
            sort, value = second_number(digits)
            tokens.append(("I" if sort == "whole" else "V", (sort, value)))
        elif quoted:
            tokens.append(("V", ("text", plain_text(quoted))))
        elif word and re.fullmatch(NAME, word) and word not in WORDS:
            tokens.append(("N", word))
        else:
            tokens.append((word or sign, None))
        place = match.end()
    if len(tokens) > 80:
        raise Wrong(1)
    return tokens


class Form:
    """An expression's form, level by level as the document lists them."""

    def __init__(self, tokens):
        self.tokens = tokens + [("end", None)]
        self.at = 0

    def take(self, *shapes):
        if self.tokens[self.at][0] in shapes:
            self.at += 1
            return self.tokens[self.at - 1][0]
        return None

    def must(self, shape):
        if not self.take(shape):
            raise Wrong(1)

    def expr(self):
        if not self.take("if"):
            return self.chain(("or",), lambda: self.chain(("and",), self.negated))
        condition = self.expr()
        self.must("then")
        first = self.expr()
        self.must("else")
        return ("if", condition, first, self.expr())

    def chain(self, signs, further):
        left = further()
        sign = self.take(*signs)
        while sign:
            left = (sign, left, further())
            sign = self.take(*signs)
        return left

    def negated(self):
        return ("not", self.negated()) if self.take("not") else self.test()

    def test(self):
        left = self.sum()
        sign = self.take("==", "<", "<=")
        return (sign, left, self.sum()) if sign else left

    def sum(self):
        return self.chain(("+", "-", "++"), lambda: self.chain(("*", "/"), self.signed))

    def signed(self):
        sign = self.take("-", "length", "none")
        return (sign, self.signed()) if sign else self.first()

    def first(self):
        shape, value = self.tokens[self.at]
        self.at += 1
        if shape == "N":
            return ("name", value)
        if shape in "IV":
            return ("value",) + value
        if shape in ("true", "false"):
            return ("value", "truth", shape == "true")
        if shape != "(":
            raise Wrong(1)
        inner = self.expr()
        if self.take("else"):
            inner = ("else", inner, self.expr())
        self.must(")")
        return inner


def second_expression(tokens):
    form = Form(tokens)
    tree = form.expr()
    form.must("end")
    return tree


PICKS = "N( as N)?( , N( as N)?)*"
KEYS = "N( down)?( , N( down)?)*"
MADE = "(rows|(values|sum|least|greatest|mean|first|last) N) as N"
TOLD = "(number|rank|(sum|before) N) as N"
SHAPES = [re.compile(shape) for shape in (
    f"keep {PICKS}", f"(left )?join I on N = N( , N = N)*( take {PICKS})?", f"group N( , N)*( : {MADE}( , {MADE})*)?",
    f"group : {MADE}( , {MADE})*", f"order {KEYS}", "part I I", "distinct", "plus I", "minus I",
    f"window( N( , N)*)?( by {KEYS})? : {TOLD}( , {TOLD})*")]


def cut_tokens(tokens, *marks):
    """The rows of tokens between the marks, at most once each, and within them between commas."""
    rows, at = {"": [[]]}, ""
    for shape, value in tokens:
        if shape in marks:
            at = shape
            rows[at] = [[]]
        elif shape == ",":
            rows[at].append([])
        else:
            rows[at][-1].append(value if shape in "INV" else shape)
    return {mark: [row for row in cut if row] for mark, cut in rows.items()}


def second_step(line):
    """The step as a tuple: its word, then what it says."""
    tokens = second_tokens(line)
    shapes = [shape for shape, _ in tokens]
    if shapes[:1] == ["where"]:
        return ("where", second_expression(tokens[1:]))
    if shapes[:3] == ["with", "N", "="]:
        return ("with", tokens[1][1], second_expression(tokens[3:]))
    if not any(shape.fullmatch(" ".join(shapes)) for shape in SHAPES):
        raise Wrong(1)
    if any(value[1] > 9999 for shape, value in tokens if shape == "I"):
        raise Wrong(1)
    word = shapes[0]
    if word in ("left", "join"):
        cut = cut_tokens(tokens[shapes.index("join") + 1:], "on", "take")
        return ("join", word == "left", cut[""][0][0][1], cut["on"], cut.get("take", []))
    if word in ("group", "window"):
        cut = cut_tokens(tokens[1:], "by", ":")
        return (word, [name for name, in cut[""]], cut.get("by", []), cut.get(":", []))
    if word in ("keep", "order"):
        return (word, cut_tokens(tokens[1:])[""])
    return (word,) + tuple(value[1] for _, value in tokens[1:])


def names_in_tree(tree):
    if tree[0] == "name":
        return [tree[1]]
    return [] if tree[0] == "value" else [name for part in tree[1:] for name in names_in_tree(part)]


def rule_of_sorts(right):
    if not right:
        raise Wrong(3)


def second_sort(tree, sorts):
    if tree[0] == "name":
        return sorts[tree[1]]
    if tree[0] == "value":
        return tree[1]
    sign, given = tree[0], [second_sort(part, sorts) for part in tree[1:]]
    if sign == "none":
        return "truth"
    if sign in ("if", "else"):
        rule_of_sorts(given[-1] == given[-2] and (sign == "else" or given[0] == "truth"))
        return given[-1]
    kinds = {"number" if sort in ("whole", "fraction") else sort for sort in given}
    allowed = {"++": ["text"], "length": ["text"], "==": ["number", "text", "truth"], "<": ["number", "text"],
               "<=": ["number", "text"], "not": ["truth"], "and": ["truth"], "or": ["truth"]}.get(sign, ["number"])
    rule_of_sorts(len(kinds) == 1 and kinds <= set(allowed))
    if sign in ("+", "-", "*"):
        return "fraction" if "fraction" in given else "whole"
    return {"/": "fraction", "++": "text", "length": "whole"}.get(sign, "truth")


def new_name(pick):
    return pick[-1]


def second_made_sort(made, sorts):
    what = made[0]
    if what in ("rows", "values", "number", "rank"):
        return "whole"
    sort = sorts[made[1]]
    rule_of_sorts(not (what in ("sum", "mean") and sort in ("text", "truth")))
    rule_of_sorts(not (what in ("least", "greatest") and sort == "truth"))
    return "fraction" if what == "mean" else sort


def names_asked(step):
    """The names of columns here, and those of the other table."""
    word = step[0]
    if word in ("where", "with"):
        return names_in_tree(step[-1]), []
    if word in ("keep", "order"):
        return [row[0] for row in step[1]], []
    if word == "join":
        return [row[0] for row in step[3]], [row[2] for row in step[3]] + [row[0] for row in step[4]]
    if word in ("group", "window"):
        made = [row[1] for row in step[3] if row[0] not in ("rows", "number", "rank")]
        return step[1] + [row[0] for row in step[2]] + made, []
    return [], []


def second_columns(step, columns, others):
    """The columns behind a step, or Wrong; others are the columns of all tables."""
    word = step[0]
    here, there = names_asked(step)
    other = []
    if word in ("join", "plus", "minus"):
        number = step[2] if word == "join" else step[1]
        if number >= len(others):
            raise Wrong(2)
        other = others[number]
    if set(here) - set(dict(columns)) or set(there) - set(dict(other)):
        raise Wrong(2)
    sorts, given = dict(columns), columns
    if word == "where":
        rule_of_sorts(second_sort(step[1], sorts) == "truth")
    elif word == "with":
        given = columns + [(step[1], second_sort(step[2], sorts))]
    elif word == "keep":
        given = [(new_name(row), sorts[row[0]]) for row in step[1]]
    elif word == "join":
        rule_of_sorts(all(sorts[row[0]] == dict(other)[row[2]] for row in step[3]))
        given = columns + [(new_name(row), dict(other)[row[0]]) for row in step[4]]
    elif word in ("plus", "minus"):
        rule_of_sorts([sort for _, sort in columns] == [sort for _, sort in other])
    elif word in ("group", "window"):
        given = [(name, sorts[name]) for name in step[1]] if word == "group" else columns
        given = given + [(new_name(row), second_made_sort(row, sorts)) for row in step[3]]
    if len(given) > 32 or len(dict(given)) < len(given):
        raise Wrong(4)
    return given


def second_asked(question, tables):
    """A refusal, or the steps and the columns before and behind them."""
    if max(map(len, [question, *tables])) > 65536 or not 1 <= len(tables) <= 8:
        return [9, 1]
    for which, table in enumerate(tables):
        told = second_reader(table)
        if told[0] == 9:
            return [9, 2, which, told[2]]
    others = [[tuple(part.split(":")) for part in table.split("\n")[0].split(",")] for table in tables]
    *lines, rest = question.split("\n")
    steps, columns = [], [others[0]]
    for number, line in enumerate(lines + ([rest] if rest else [])):
        if number == 40 or number == len(lines):
            return wrong(number, 1)
        try:
            steps.append(second_step(line))
            columns.append(second_columns(steps[-1], columns[-1], others))
        except Wrong as fault:
            return wrong(number, fault.args[0])
    return steps, columns


def second_judge(question, *tables):
    asked = second_asked(question, tables)
    return asked if isinstance(asked, list) else ",".join(f"{name}:{sort}" for name, sort in asked[1][-1])


def second_rows(table, columns):
    """A right table's rows, with Python's fractions and texts."""
    rows = []
    for line in table.split("\n")[1:-1]:
        # quotes are looked for before commas, so that those within texts cut nothing
        cells = [found[0] for found in re.finditer(rf"(?<![^,])(?:{TEXT}|[^,\"]*)(?![^,])", line)]
        rows.append([second_cell(cell, sort) for cell, (_, sort) in zip(cells, columns)])
    return rows


def second_cell(cell, sort):
    if cell == "":
        return None
    if sort == "text":
        return plain_text(cell)
    return cell == "true" if sort == "truth" else int(cell) if sort == "whole" else Fraction(cell)


def second_write(columns, rows):
    shown = []
    for row in rows:
        cells = []
        for cell, (_, sort) in zip(row, columns):
            if cell is not None and sort == "fraction":
                cell = (cell.numerator, cell.denominator)
            cells.append(cell.encode() if isinstance(cell, str) else cell)
        shown.append(cells)
    return write(columns, shown)


def within(value):
    """The value, if it isn't too large."""
    if isinstance(value, str) and len(value) > 1000:
        raise TooLarge
    if isinstance(value, (int, Fraction)) and max(abs(value.numerator), value.denominator) >= 10 ** 400:
        raise TooLarge
    return value


def second_value(tree, row):
    """The value of an expression in a row, which is a dict of cells."""
    sign = tree[0]
    if sign == "name":
        return row[tree[1]]
    if sign == "value":
        return tree[2]
    given = [second_value(part, row) for part in tree[1:]]
    one, other = (given + [None])[:2]
    if sign == "none":
        return one is None
    if sign in ("and", "or"):
        decided = sign == "or"
        return decided if decided in given else None if None in given else not decided
    if sign == "if":
        return given[1] if one else given[2]
    if sign == "else":
        return other if one is None else one
    if None in given:
        return None
    if sign == "-" and len(given) == 1:
        return -one
    if sign == "/":
        return within(Fraction(one) / Fraction(other)) if other != 0 else None
    works = {"+": lambda: one + other, "-": lambda: one - other, "*": lambda: one * other, "++": lambda: one + other,
             "length": lambda: len(one), "==": lambda: one == other, "<": lambda: one < other, "<=": lambda: one <= other,
             "not": lambda: not one}
    return within(works[sign]())


def second_compare(keys, names):
    """How rows are compared, for Python's sorted."""
    def compare(one, other):
        for name, *down in keys:
            here, there = one[names.index(name)], other[names.index(name)]
            if here != there:
                before = here is None or there is not None and here < there
                return -1 if before != bool(down) else 1
        return 0
    return compare


def second_partitions(rows, places):
    """The rows put together by their cells in the places, each with its number."""
    partitions = []
    for number, row in enumerate(rows):
        key = [row[place] for place in places]
        for other, members in partitions:
            if other == key:
                members.append(number)
                break
        else:
            partitions.append((key, [number]))
    return partitions


def second_made(row, cells, sort):
    what = row[0]
    if what == "rows":
        return len(cells)
    if what in ("first", "last"):
        return (cells or [None])[0 if what == "first" else -1]
    there = [cell for cell in cells if cell is not None]
    if what == "values":
        return len(there)
    if not there:
        return None
    if what == "mean":
        return within(Fraction(sum(there), 1) / len(there))
    return within({"sum": sum, "least": min, "greatest": max}[what](there))


def second_group(step, columns, rows):
    names = [name for name, _ in columns]
    parts = second_partitions(rows, [names.index(name) for name in step[1]])
    if not step[1]:
        parts = [([], list(range(len(rows))))]
    given = []
    for key, members in parts:
        made = []
        for row in step[3]:
            place = names.index(row[1]) if row[0] != "rows" else 0
            made.append(second_made(row, [rows[number][place] for number in members], columns[place][1]))
        given.append(key + made)
    return given


def second_told(row, place, own, members, rows, compare):
    """What a window tells of the row at place own among its members, which are in order."""
    if row[0] == "number":
        return own + 1
    if row[0] == "rank":
        return 1 + sum(compare(rows[number], rows[members[own]]) < 0 for number in members)
    cells = [rows[number][place] for number in members]
    if row[0] == "before":
        return None if own == 0 else cells[own - 1]
    there = [cell for cell in cells[:own + 1] if cell is not None]
    return within(sum(there)) if there else None


def second_window(step, columns, rows):
    names = [name for name, _ in columns]
    compare = second_compare(step[2], names)
    given = [list(row) for row in rows]
    for _, members in second_partitions(rows, [names.index(name) for name in step[1]]):
        members = sorted(members, key=functools.cmp_to_key(lambda one, other: compare(rows[one], rows[other])))
        for own, number in enumerate(members):
            for row in step[3]:
                place = names.index(row[1]) if row[0] in ("sum", "before") else 0
                given[number].append(second_told(row, place, own, members, rows, compare))
    return given


def second_join(step, columns, rows, other_columns, others):
    names, there = [name for name, _ in columns], [name for name, _ in other_columns]
    given = []
    for row in rows:
        fitting = [other for other in others if all(
            row[names.index(pair[0])] is not None and row[names.index(pair[0])] == other[there.index(pair[2])] for pair in step[3])]
        given += [row + [other[there.index(pick[0])] for pick in step[4]] for other in fitting]
        if step[1] and not fitting:
            given.append(row + [None] * len(step[4]))
    return given


def second_after(step, columns, rows, tables):
    """The rows behind a step; tables are columns and rows."""
    word = step[0]
    names = [name for name, _ in columns]
    if word == "where":
        return [row for row in rows if second_value(step[1], dict(zip(names, row)))]
    if word == "with":
        return [row + [second_value(step[2], dict(zip(names, row)))] for row in rows]
    if word == "keep":
        return [[row[names.index(pick[0])] for pick in step[1]] for row in rows]
    if word == "join":
        return second_join(step, columns, rows, *tables[step[2]])
    if word == "group":
        return second_group(step, columns, rows)
    if word == "window":
        return second_window(step, columns, rows)
    if word == "order":
        return sorted(rows, key=functools.cmp_to_key(second_compare(step[1], names)))
    if word == "part":
        return rows[step[1]:][:step[2]]
    if word == "distinct":
        return [row for number, row in enumerate(rows) if row not in rows[:number]]
    others = tables[step[1]][1]
    return rows + others if word == "plus" else [row for row in rows if row not in others]


def second_run(question, *tables):
    asked = second_asked(question, tables)
    if isinstance(asked, list):
        return asked
    steps, columns = asked
    heads = [[tuple(part.split(":")) for part in table.split("\n")[0].split(",")] for table in tables]
    read_tables = [(head, second_rows(table, head)) for head, table in zip(heads, tables)]
    rows = read_tables[0][1]
    try:
        for number, step in enumerate(steps):
            rows = second_after(step, columns[number], rows, read_tables)
            if len(rows) > 400:
                raise TooLarge
    except TooLarge:
        return [9, 6]
    return second_write(columns[-1], rows)


def second_same(in_order, table, other):
    if max(len(table), len(other)) > 65536:
        return [9, 1]
    for which, text in enumerate((table, other)):
        told = second_reader(text)
        if told[0] == 9:
            return [9, 2, which, told[2]]
    # a table has one text, so that rows are the same just if their lines are
    columns, *rows = table.split("\n")
    others, *other_rows = other.split("\n")
    alike = rows == other_rows if in_order else sorted(rows) == sorted(other_rows)
    return [0, int(columns == others and alike)]


FORMS = "expr either both negated test sum product signed first".split()
# each operation's own form, and the forms that stand at its places
PLACES = {"if": "expr expr expr expr", "or": "either either both", "and": "both both negated", "not": "negated negated",
          "before": "signed signed", "length": "signed signed", "none": "signed signed", "else": "first expr expr"}
PLACES.update(dict.fromkeys(("==", "<", "<="), "test sum sum"))
PLACES.update(dict.fromkeys(("+", "-", "++"), "sum sum product"))
PLACES.update(dict.fromkeys(("*", "/"), "product product signed"))
MINUS_BEFORE = "- before"


def second_literal(sort, value):
    if sort == "fraction":
        value = (value.numerator, value.denominator)
    return write_cell(value.encode() if sort == "text" else value, sort)


def second_words(tree, place="expr"):
    """The tokens that an expression is written with at a place."""
    if tree[0] == "name":
        return [tree[1]]
    if tree[0] == "value":
        return [second_literal(*tree[1:])]
    sign = "before" if tree[0] == "-" and len(tree) == 2 else tree[0]
    own, *places = PLACES[sign].split()
    parts = [second_words(part, at) for part, at in zip(tree[1:], places)]
    if sign == "if":
        words = ["if", *parts[0], "then", *parts[1], "else", *parts[2]]
    elif sign == "else":
        words = ["(", *parts[0], "else", *parts[1], ")"]
    elif len(parts) == 1:
        words = [MINUS_BEFORE if sign == "before" else sign, *parts[0]]
    else:
        words = [*parts[0], sign, *parts[1]]
    return ["(", *words, ")"] if FORMS.index(own) < FORMS.index(place) else words


def comma_words(rows):
    return [word for row in rows for word in [",", *row]][1:]


def pick_words(rows):
    return comma_words([row if row[0] != row[-1] else row[:1] for row in rows])


def step_words(step):
    """The tokens that a step is written with."""
    word = step[0]
    if word == "where":
        return ["where", *second_words(step[1])]
    if word == "with":
        return ["with", step[1], "=", *second_words(step[2])]
    if word == "keep":
        return ["keep", *pick_words(step[1])]
    if word == "order":
        return ["order", *comma_words(step[1])]
    if word == "join":
        taken = ["take", *pick_words(step[4])] if step[4] else []
        return (["left"] if step[1] else []) + ["join", str(step[2]), "on", *comma_words(step[3]), *taken]
    if word in ("group", "window"):
        by = ["by", *comma_words(step[2])] if step[2] else []
        made = [":", *comma_words(step[3])] if step[3] else []
        return [word, *comma_words([[name] for name in step[1]]), *by, *made]
    return [word, *map(str, step[1:])]


def second_line(step):
    words = step_words(step)
    line = words[0]
    for before, word in zip(words, words[1:]):
        blank = before not in ("(", MINUS_BEFORE) and word not in (",", ":", ")")
        line += " " * blank + ("-" if word == MINUS_BEFORE else word)
    return line


def signs_in_tree(tree):
    return set() if tree[0] in ("name", "value") else {tree[0]}.union(*map(signs_in_tree, tree[1:]))


def second_sure(tree):
    return not signs_in_tree(tree) & {"+", "-", "*", "/", "++"}


def renamed_tree(tree, names):
    if tree[0] == "name":
        return ("name", names[tree[1]])
    return tree if tree[0] == "value" else (tree[0], *[renamed_tree(part, names) for part in tree[1:]])


def second_rule(first, second):
    """The rules that fit two steps, by their numbers: what stands in the steps' place."""
    words, fitting = (first[0], second[0]), {}
    if second[0] == "where" and second_sure(second[1]):
        names = names_in_tree(second[1])
        if first[0] == "where" and second_sure(first[1]):
            fitting[1] = [("where", ("and", first[1], second[1]))]
        if first[0] in ("order", "distinct"):
            fitting[2 if first[0] == "order" else 3] = [second, first]
        if first[0] == "with" and first[1] not in names and second_sure(first[2]):
            fitting[4] = [second, first]
        if first[0] == "keep":
            fitting[5] = [("where", renamed_tree(second[1], {new_name(row): row[0] for row in first[1]})), first]
        if first[0] == "join" and not {new_name(row) for row in first[4]} & set(names):
            fitting[6] = [second, first]
    if words == ("order", "order"):
        fitting[7] = [("order", second[1] + [row for row in first[1] if row[0] not in [other[0] for other in second[1]]])]
    if words == ("keep", "keep"):
        olds = {new_name(row): row[0] for row in first[1]}
        fitting[8] = [("keep", [[olds[row[0]], "as", new_name(row)] for row in second[1]])]
    if words == ("distinct", "distinct"):
        fitting[9] = [second]
    if words == ("part", "part") and first[1] + second[1] <= 9999:
        fitting[10] = [("part", first[1] + second[1], 0 if second[1] > first[2] else min(second[2], first[2] - second[1]))]
    return {number: steps for number, steps in fitting.items() if number not in (1, 7, 8) or len(step_words(steps[0])) <= 80}


def second_fits(steps):
    """All rules that fit, at all their places: triples of the rule, the place and what stands there then."""
    return [(rule, place, made) for place in range(len(steps) - 1)
            for rule, made in second_rule(steps[place], steps[place + 1]).items()]


def second_better(question, *tables):
    asked = second_asked(question, tables)
    if isinstance(asked, list):
        return asked
    steps = asked[0]
    fits = second_fits(steps)
    while fits:
        _, place, made = min(fits, key=lambda fit: fit[:2])
        steps = steps[:place] + made + steps[place + 2:]
        fits = second_fits(steps)
    return question_of(second_line(step) for step in steps)


SORTS = ("whole", "fraction", "text", "truth")
NAMES = tuple("abcdefgh")
TEXTS = ("", "x", "xy", "y", "Z", '"', "\\", "\n", "x y", "~", "aaa")
FRACTIONS = ((0, 1), (1, 1), (2, 1), (-2, 1), (1, 2), (-1, 2), (3, 2), (2, 3), (-7, 3), (5, 6))
ODD_TOKENS = ("a", "zz", "where", "as", ",", ":", "=", "==", "<", "(", ")", "-", "+", "++", "1", "1/2", '"x"', "true", "else", "by",
              "down", "none", "not", "take", "on", "9", "02", "?", "if", "then")


LARGE = {
    "whole": ["9" * 400, "1" + "0" * 399, "1" + "0" * 200, "9" * 200, "10", "0", "1"],
    "fraction": ["9" * 400 + "/1", "1/" + "9" * 400, "1/1" + "0" * 399, "1" + "0" * 200 + "/3", "3/1" + "0" * 200, "1/2", "10/1"],
    "text": ['"' + "x" * 1000 + '"', '"' + "y" * 500 + '"', '"' + "z" * 499 + '"', '"x"', '""'],
    "truth": ["true", "false"],
}


STEP_WORDS = ("where", "where", "keep", "with", "with", "join", "left join", "group", "group", "order", "part", "distinct", "plus",
              "minus", "window", "window")
# the steps that the rules of better questions speak of come more often
BETTER_WORDS = ("where",) * 8 + ("keep", "order", "distinct", "part", "with") * 2 + ("join", "left join", "group", "window", "plus")


class Draw:
    """Draws that are the same for the same seed; large ones have values near the limits.

    So many of a hundred expressions as sure tells are without + - * / ++ and - before.
    """

    def __init__(self, seed, large=False, sure=0, words=STEP_WORDS):
        self.random = random.Random(seed)
        self.large = large
        self.sure = sure
        self.words = words
        self.unsure = True

    def one(self, *choices):
        return self.random.choice(choices)

    def chance(self, percent):
        return self.random.randrange(100) < percent

    def few(self, draw, least, most):
        return [draw() for _ in range(self.random.randint(least, most))]

    def cell(self, sort):
        if self.chance(20):
            return None
        if sort == "whole" and self.large:
            return self.one(0, 1, 10 ** 400 - 1, 1 - 10 ** 400, 10 ** 399, -10 ** 200)
        if sort == "whole":
            return self.one(0, 1, 2, 3, -1, -2, 10, 7)
        if sort == "fraction":
            return self.one(*FRACTIONS)
        return self.one(True, False) if sort == "truth" else tuple(self.one(*TEXTS).encode())

    def columns(self):
        names = self.random.sample(NAMES, self.random.randint(1, 5))
        return [(name, self.one(*SORTS)) for name in names]

    def rows(self, columns, most):
        rows = self.few(lambda: [self.cell(sort) for _, sort in columns], self.one(0, 3, 4, 5), most)
        # rows that are alike shall be there often
        return [self.one(*rows) if self.chance(25) else row for row in rows]

    def tables(self, most=7):
        """Tables as columns and rows; some have the sorts of the first one."""
        first = self.columns()
        drawn = [first] + self.few(self.columns, 0, 2)
        if self.chance(60):
            names = self.random.sample(NAMES, len(first))
            drawn.append([(name, sort) for name, (_, sort) in zip(names, first)])
        return [(columns, self.rows(columns, most)) for columns in drawn]

    def constant(self, sort):
        if self.large:
            return self.one(*LARGE[sort])
        if sort == "whole":
            return self.one("0", "1", "2", "3", "10")
        if sort == "fraction":
            return self.one("0/1", "1/2", "2/1", "3/2", "7/3")
        if sort == "text":
            return self.one('""', '"x"', '"xy"', '"\\n"', '"\\""', '"y"')
        return self.one("true", "false")

    def expression(self, sort, columns, depth):
        names = [name for name, own in columns if own == sort]
        if depth == 0 or self.chance(15):
            return self.one(*names) if names and self.chance(30 if self.large else 75) else self.constant(sort)
        text = self.compound(sort, columns, depth - 1)
        return f"({text})" if self.chance(65) else text

    def compound(self, sort, columns, depth):
        def part(wanted):
            return self.expression(wanted, columns, depth)

        def number():
            return part(self.one("whole", "fraction"))

        def other():
            return part(self.one(*SORTS))

        kinds = [lambda: f"if {part('truth')} then {part(sort)} else {part(sort)}", lambda: f"({part(sort)} else {part(sort)})"]
        if sort != "truth" and not self.unsure:
            kinds += [lambda: f"length {part('text')}"] * 3 if sort == "whole" else []
        elif sort == "whole":
            kinds += [lambda: f"{part('whole')} {self.one('+', '-', '*')} {part('whole')}"] * 3
            kinds += [lambda: f"-{part('whole')}", lambda: f"length {part('text')}"]
        elif sort == "fraction":
            kinds += [lambda: f"{number()} / {number()}"] * 2 + [lambda: f"-{part('fraction')}"]
            kinds += [lambda: f"{number()} {self.one('+', '-', '*')} {part('fraction')}",
                      lambda: f"{part('fraction')} {self.one('+', '-', '*')} {number()}"]
        elif sort == "text":
            kinds += [lambda: f"{part('text')} ++ {part('text')}"] * 3
        else:
            kinds += [lambda: f"{part('truth')} {self.one('and', 'or')} {part('truth')}"] * 3 + [lambda: f"not {part('truth')}"]
            kinds += [lambda: f"{number()} {self.one('==', '<', '<=')} {number()}"] * 2 + [lambda: f"none {other()}"]
            kinds += [lambda: f"{part('text')} {self.one('==', '<', '<=')} {part('text')}", lambda: f"{part('truth')} == {part('truth')}"]
        return self.one(*kinds)()

    def name_here(self, columns):
        return self.one(*columns)[0]

    def new_name(self):
        return self.one(*NAMES, "n", "m", "x", "y", "z", "k1", "k2", "k3", "s_1")

    def picks(self, columns):
        def pick():
            name = self.name_here(columns)
            return f"{name} as {self.new_name()}" if self.chance(50) else name
        return ", ".join(self.few(pick, 1, 4))

    def keys(self, columns):
        return ", ".join(self.few(lambda: self.name_here(columns) + self.one("", " down"), 1, 3))

    def names(self, columns, least):
        count = min(len(columns), self.random.randint(least, 2))
        return ", ".join(name for name, _ in self.random.sample(columns, count))

    def made(self, columns):
        what = self.one("rows", "values", "sum", "least", "greatest", "mean", "first", "last")
        return (what if what == "rows" else f"{what} {self.name_here(columns)}") + f" as {self.new_name()}"

    def told(self, columns):
        what = self.one("number", "rank", "sum", "before")
        return (what if what in ("number", "rank") else f"{what} {self.name_here(columns)}") + f" as {self.new_name()}"

    def pair(self, columns, other):
        name, sort = self.one(*columns)
        alike = [there for there, own in other if own == sort]
        return f"{name} = {self.one(*alike) if alike else self.name_here(other)}"

    def line(self, columns, others):
        """A step that is often right."""
        word = self.one(*self.words)
        self.unsure = not (self.sure and self.chance(self.sure))
        number = self.random.randrange(len(others))
        if word == "where":
            return f"where {self.expression('truth', columns, 3)}"
        if word == "with":
            return f"with {self.new_name()} = {self.expression(self.one(*SORTS), columns, 3)}"
        if word == "keep":
            return f"keep {self.picks(columns)}"
        if word in ("join", "left join"):
            pairs = ", ".join(self.few(lambda: self.pair(columns, others[number]), 1, 2))
            return f"{word} {number} on {pairs}" + (f" take {self.picks(others[number])}" if self.chance(75) else "")
        if word == "order":
            return f"order {self.keys(columns)}"
        if word == "part":
            return f"part {self.random.randrange(4)} {self.random.randrange(8)}"
        if word == "distinct":
            return word
        if word in ("plus", "minus"):
            return f"{word} {number}"
        if word == "group":
            made = ", ".join(self.few(lambda: self.made(columns), 1, 3))
            return f"group {self.names(columns, 1)}" if self.chance(15) else f"group {self.names(columns, 0)}: {made}"
        by = f" by {self.keys(columns)}" if self.chance(75) else ""
        told = ", ".join(self.few(lambda: self.told(columns), 1, 3))
        return f"window {self.names(columns, 0)}{by}: {told}"

    def right_lines(self, others, most):
        """Lines that are right, and the columns behind them."""
        lines, columns = [], others[0]
        for _ in range(self.random.randint(0, most)):
            for _ in range(8):
                line = self.line(columns, others)
                try:
                    columns = second_columns(second_step(line), columns, others)
                except Wrong:
                    continue
                lines.append(line)
                break
        return lines, columns

    def spoilt(self, line):
        tokens = line.replace("(", "( ").replace(")", " )").replace(",", " ,").replace(":", " :").split(" ")
        place = self.random.randrange(len(tokens))
        kind = self.one("out", "twice", "other", "more", "swap")
        if kind == "out":
            del tokens[place]
        elif kind == "twice":
            tokens.insert(place, tokens[place])
        elif kind == "other":
            tokens[place] = self.one(*ODD_TOKENS)
        elif kind == "more":
            tokens.insert(place, self.one(*ODD_TOKENS))
        else:
            other = self.random.randrange(len(tokens))
            tokens[place], tokens[other] = tokens[other], tokens[place]
        return " ".join(tokens)


def question_of(lines):
    return "".join(line + "\n" for line in lines)
