"""The calls, as they are handed lists of bytes and give back lists of numbers."""

from tablesteps.asking import NoTable, StepNotRight, TooLong, ask, check_length, read_tables
from tablesteps.bettering import better_steps
from tablesteps.comparing import are_same
from tablesteps.exact import TooLarge
from tablesteps.lines import write_question
from tablesteps.reader import TableFault, read_table
from tablesteps.working import work_out
from tablesteps.writer import write_columns, write_table

ANSWERED = 0
REFUSED = 9
TOO_LONG = 1
NO_TABLE = 2
NOT_RIGHT = 3
TOO_LARGE = 6


def answer_with(make_text, question, tables):
    try:
        text = make_text(question, tables)
    except TooLong:
        return [REFUSED, TOO_LONG]
    except NoTable as fault:
        return [REFUSED, NO_TABLE, fault.which, fault.line]
    except StepNotRight as fault:
        return [REFUSED, NOT_RIGHT, fault.step, fault.rule]
    except TooLarge:
        return [REFUSED, TOO_LARGE]
    return [ANSWERED, len(text)] + text


def columns_told(question, tables):
    return write_columns(ask(question, tables).columns[-1])


def table_told(question, tables):
    return write_table(work_out(ask(question, tables)))


def question_told(question, tables):
    return write_question(better_steps(ask(question, tables).steps))


def read(text):
    try:
        check_length(text)
        table = read_table(text)
    except TooLong:
        return [REFUSED, TOO_LONG]
    except TableFault as fault:
        return [REFUSED, NO_TABLE, fault.line]
    return [ANSWERED, len(table.rows)]


# n is how many tables there are, which their list tells by itself.
def judge(n, question, tables):
    return answer_with(columns_told, question, tables)


def run(n, question, tables):
    return answer_with(table_told, question, tables)


def better(n, question, tables):
    return answer_with(question_told, question, tables)


def same(in_order, table, other):
    try:
        check_length(table)
        check_length(other)
        both = read_tables([table, other])
    except TooLong:
        return [REFUSED, TOO_LONG]
    except NoTable as fault:
        return [REFUSED, NO_TABLE, fault.which, fault.line]
    return [ANSWERED, 1 if are_same(both[0], both[1], in_order == 1) else 0]
