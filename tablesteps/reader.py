"""Tables as texts: reading one, or telling its first line that isn't right."""

from tablesteps.cells import read_cell
from tablesteps.columns import read_columns
from tablesteps.texts import BACKSLASH, COMMA, LINE_END, QUOTE, LineNotRight, cut_at

MOST_ROWS = 400


class Table:
    def __init__(self, columns, rows):
        self.columns = columns
        self.rows = rows


class TableFault(Exception):
    def __init__(self, line):
        self.line = line


# The pieces with commas between are always the line again, so a line whose
# pieces are right cells is right, however its quotes were paired here.
def cut_cells(line):
    pieces = []
    piece = []
    quoted = False
    escaped = False
    for byte in line:
        if byte == COMMA and not quoted:
            pieces.append(piece)
            piece = []
        else:
            piece.append(byte)
        if byte == QUOTE and not escaped:
            quoted = not quoted
        escaped = byte == BACKSLASH and not escaped
    pieces.append(piece)
    return pieces


def read_row(line, columns):
    pieces = cut_cells(line)
    if len(pieces) != len(columns):
        raise LineNotRight()
    return [read_cell(piece, column[1]) for piece, column in zip(pieces, columns)]


def read_line(table, number, line):
    if number == 0:
        table.columns = read_columns(line)
    elif number > MOST_ROWS:
        raise LineNotRight()
    else:
        table.rows.append(read_row(line, table.columns))


def read_table(text):
    lines = cut_at(text, LINE_END)
    behind = lines.pop()
    table = Table([], [])
    for number, line in enumerate(lines):
        try:
            read_line(table, number, line)
        except LineNotRight:
            raise TableFault(number)
    # Without any line there are no columns, whether bytes are there or not.
    if len(lines) == 0 or len(behind) > 0:
        raise TableFault(len(lines))
    return table
