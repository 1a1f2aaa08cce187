"""A table's columns: names, sorts, and the first line that tells them."""

from tablesteps.texts import COLON, COMMA, LineNotRight, cut_at, is_letter, word_of

SORTS = ("whole", "fraction", "text", "truth")

# Words that have a meaning in questions, so that no column may be called so.
TAKEN_WORDS = (
    "and", "as", "before", "by", "distinct", "down", "else", "false", "first", "greatest",
    "group", "if", "join", "keep", "last", "least", "left", "length", "mean", "minus",
    "none", "not", "number", "on", "or", "order", "part", "plus", "rank", "rows",
    "sum", "take", "then", "true", "values", "where", "window", "with",
)

LONGEST_NAME = 31
MOST_COLUMNS = 32


def read_name(row):
    if len(row) == 0 or len(row) > LONGEST_NAME or not is_letter(row[0]):
        raise LineNotRight()
    name = word_of(row)
    if name in TAKEN_WORDS:
        raise LineNotRight()
    return name


def read_sort(row):
    sort = word_of(row)
    if sort not in SORTS:
        raise LineNotRight()
    return sort


def read_column(row):
    parts = cut_at(row, COLON)
    if len(parts) != 2:
        raise LineNotRight()
    return (read_name(parts[0]), read_sort(parts[1]))


# The columns are pairs of a name and a sort, in their order.
def read_columns(line):
    pieces = cut_at(line, COMMA)
    if len(pieces) > MOST_COLUMNS:
        raise LineNotRight()
    columns = [read_column(piece) for piece in pieces]
    names = [column[0] for column in columns]
    if len(set(names)) != len(names):
        raise LineNotRight()
    return columns
