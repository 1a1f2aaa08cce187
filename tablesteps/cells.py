"""A table's cells: how each sort is written, and what it stands for.

None stands for none, an int for a whole, a pair of ints in lowest terms for a
fraction, a tuple of bytes for a text, True and False for truths.
"""

from tablesteps.exact import greatest_divisor
from tablesteps.texts import BACKSLASH, DIGIT_0, LETTER_N, LINE_END, MINUS, QUOTE, SLASH
from tablesteps.texts import LineNotRight, cut_at, is_digit, word_of

# A size below 10^400 is one of 400 digits at most, as no needless 0 is written.
MOST_DIGITS = 400
LONGEST_TEXT = 1000
LEAST_PLAIN = 32
GREATEST_PLAIN = 126


def read_size(row):
    if len(row) == 0 or len(row) > MOST_DIGITS:
        raise LineNotRight()
    if row[0] == DIGIT_0 and len(row) > 1:
        raise LineNotRight()
    size = 0
    for byte in row:
        if not is_digit(byte):
            raise LineNotRight()
        size = size * 10 + byte - DIGIT_0
    return size


def read_whole(row):
    if row[:1] != [MINUS]:
        return read_size(row)
    size = read_size(row[1:])
    # 0 isn't below 0, so -0 would be a second text for it.
    if size == 0:
        raise LineNotRight()
    return -size


def read_fraction(row):
    parts = cut_at(row, SLASH)
    if len(parts) != 2:
        raise LineNotRight()
    upper = read_whole(parts[0])
    lower = read_size(parts[1])
    # 1/0 has no common divisor above 1, so a 0 below is asked for by itself.
    if lower == 0 or greatest_divisor(abs(upper), lower) != 1:
        raise LineNotRight()
    return (upper, lower)


def plain_byte(byte):
    if byte < LEAST_PLAIN or byte > GREATEST_PLAIN or byte == QUOTE:
        raise LineNotRight()
    return byte


def escaped_byte(byte):
    if byte == LETTER_N:
        return LINE_END
    if byte != QUOTE and byte != BACKSLASH:
        raise LineNotRight()
    return byte


def unescape(row):
    text = []
    escaped = False
    for byte in row:
        if escaped:
            text.append(escaped_byte(byte))
            escaped = False
        elif byte == BACKSLASH:
            escaped = True
        else:
            text.append(plain_byte(byte))
    # The \ at the end belongs to the quote behind it, which then ends nothing.
    if escaped:
        raise LineNotRight()
    return text


def read_text(row):
    # A single quote would be begin and end at once.
    if len(row) < 2 or row[0] != QUOTE or row[-1] != QUOTE:
        raise LineNotRight()
    text = unescape(row[1:-1])
    if len(text) > LONGEST_TEXT:
        raise LineNotRight()
    return tuple(text)


def read_truth(row):
    word = word_of(row)
    if word != "true" and word != "false":
        raise LineNotRight()
    return word == "true"


def read_cell(row, sort):
    if len(row) == 0:
        return None
    if sort == "whole":
        return read_whole(row)
    if sort == "fraction":
        return read_fraction(row)
    if sort == "text":
        return read_text(row)
    return read_truth(row)
