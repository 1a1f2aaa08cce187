"""The calls, as they are handed lists of bytes and give back lists of numbers."""

from tablesteps.reader import TableFault, read_table

ANSWERED = 0
REFUSED = 9
TOO_LONG = 1
NO_TABLE = 2

MOST_BYTES = 65536


def read(text):
    if len(text) > MOST_BYTES:
        return [REFUSED, TOO_LONG]
    try:
        table = read_table(text)
    except TableFault as fault:
        return [REFUSED, NO_TABLE, fault.line]
    return [ANSWERED, len(table.rows)]
