"""Asking: a question and its tables, read and judged, or the first refusal."""

from tablesteps.judging import judge_step
from tablesteps.reader import TableFault, read_table
from tablesteps.rules import NO_STEP, RuleBroken
from tablesteps.steps import read_step
from tablesteps.texts import LINE_END, LineNotRight, cut_at

MOST_BYTES = 65536
MOST_TABLES = 8
MOST_STEPS = 40


# More bytes than are allowed, or more or fewer tables.
class TooLong(Exception):
    pass


class NoTable(Exception):
    def __init__(self, which, line):
        self.which = which
        self.line = line


class StepNotRight(Exception):
    def __init__(self, step, rule):
        self.step = step
        self.rule = rule


# columns are those before the first step and behind each one.
class Asked:
    def __init__(self, tables):
        self.tables = tables
        self.steps = []
        self.columns = [tables[0].columns]


def check_length(text):
    if len(text) > MOST_BYTES:
        raise TooLong()


def check_lengths(question, texts):
    check_length(question)
    if len(texts) == 0 or len(texts) > MOST_TABLES:
        raise TooLong()
    for text in texts:
        check_length(text)


def read_tables(texts):
    tables = []
    for which, text in enumerate(texts):
        try:
            tables.append(read_table(text))
        except TableFault as fault:
            raise NoTable(which, fault.line)
    return tables


def ask_line(asked, number, line):
    if number >= MOST_STEPS:
        raise LineNotRight()
    step = read_step(line)
    asked.columns.append(judge_step(step, asked.columns[-1], asked.tables))
    asked.steps.append(step)


def ask_lines(asked, lines):
    for number, line in enumerate(lines):
        try:
            ask_line(asked, number, line)
        except LineNotRight:
            raise StepNotRight(number, NO_STEP)
        except RuleBroken as fault:
            raise StepNotRight(number, fault.rule)


def ask(question, texts):
    check_lengths(question, texts)
    asked = Asked(read_tables(texts))
    lines = cut_at(question, LINE_END)
    behind = lines.pop()
    ask_lines(asked, lines)
    if len(behind) > 0:
        raise StepNotRight(len(lines), NO_STEP)
    return asked
