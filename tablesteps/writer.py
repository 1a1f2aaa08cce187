"""Writing tables: one text for each."""

from tablesteps.texts import BACKSLASH, COLON, COMMA, LETTER_N, LINE_END, QUOTE, SLASH, bytes_of


def join_pieces(pieces):
    line = []
    for number, piece in enumerate(pieces):
        if number > 0:
            line.append(COMMA)
        line.extend(piece)
    line.append(LINE_END)
    return line


def write_columns(columns):
    return join_pieces([bytes_of(column[0]) + [COLON] + bytes_of(column[1]) for column in columns])


def write_byte(byte):
    if byte == LINE_END:
        return [BACKSLASH, LETTER_N]
    if byte == QUOTE or byte == BACKSLASH:
        return [BACKSLASH, byte]
    return [byte]


def write_text(text):
    written = [QUOTE]
    for byte in text:
        written.extend(write_byte(byte))
    written.append(QUOTE)
    return written


def write_whole(whole):
    return bytes_of(str(whole))


def write_cell(cell, sort):
    if cell is None:
        return []
    if sort == "whole":
        return write_whole(cell)
    if sort == "fraction":
        return write_whole(cell[0]) + [SLASH] + write_whole(cell[1])
    if sort == "text":
        return write_text(cell)
    return bytes_of("true" if cell else "false")


def write_row(row, columns):
    return join_pieces([write_cell(cell, column[1]) for cell, column in zip(row, columns)])


def write_table(table):
    text = write_columns(table.columns)
    for row in table.rows:
        text.extend(write_row(row, table.columns))
    return text
