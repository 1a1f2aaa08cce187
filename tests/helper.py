"""What the tests share: texts as lists of bytes, a writer of tables, and a second reader.

The writer and the second reader are written from the document alone and share
nothing with the program, so that a slip in one of them shows against the other.
"""

import math
import re

from tablesteps.tables import read

WORDS = """and as before by distinct down else false first greatest group if join keep last
least left length mean minus none not number on or order part plus rank rows sum take then
true values where window with""".split()

NAME = r"[a-z][a-z0-9_]{0,30}"
COLUMN = re.compile(rf"({NAME}):(whole|fraction|text|truth)")
SIZE = r"(?:0|[1-9][0-9]{0,399})"
WHOLE = rf"(?:-(?!0)|){SIZE}"
TEXT = r'"(?:[ !#-\[\]-~]|\\["\\n]){0,1000}"'
CELLS = {
    "whole": rf"(?:{WHOLE})?",
    "fraction": rf"(?:{WHOLE}/(?!0){SIZE})?",
    "text": rf"(?:{TEXT})?",
    "truth": r"(?:true|false)?",
}
FRACTION = re.compile(r"(?:^|,)-?(\d+)/(\d+)(?=,|$)")


def numbers(text):
    return list(text.encode("latin-1"))


def answer(text):
    return read(numbers(text))


def rows_told(count):
    return [0, count]


def fault(line):
    return [9, 2, line]


def write_cell(cell, sort):
    if cell is None:
        return ""
    if sort == "whole":
        return str(cell)
    if sort == "fraction":
        return f"{cell[0]}/{cell[1]}"
    if sort == "truth":
        return "true" if cell else "false"
    text = bytes(cell).decode("latin-1")
    return '"' + text.replace("\\", "\\\\").replace('"', '\\"').replace("\n", "\\n") + '"'


def write(columns, rows):
    lines = [",".join(f"{name}:{sort}" for name, sort in columns)]
    for row in rows:
        lines.append(",".join(write_cell(cell, sort) for cell, (_, sort) in zip(row, columns)))
    return "".join(line + "\n" for line in lines)


def sorts_of(line):
    found = [COLUMN.fullmatch(part) for part in line.split(",")]
    if not all(found) or len(found) > 32:
        return None
    names = [match[1] for match in found]
    if len(set(names)) < len(names) or set(names) & set(WORDS):
        return None
    return [match[2] for match in found]


def right_row(line, sorts):
    if not re.fullmatch(",".join(CELLS[sort] for sort in sorts), line):
        return False
    bare = re.sub(TEXT, "", line)
    return all(math.gcd(int(up), int(low)) == 1 for up, low in FRACTION.findall(bare))


def second_reader(text):
    """What read answers, worked out by patterns and not byte by byte."""
    if len(text) > 65536:
        return [9, 1]
    *lines, rest = text.split("\n")
    if not lines:
        return fault(0)
    sorts = sorts_of(lines[0])
    if sorts is None:
        return fault(0)
    for number, line in enumerate(lines[1:], start=1):
        if number == 401 or not right_row(line, sorts):
            return fault(number)
    return fault(len(lines)) if rest else rows_told(len(lines) - 1)
