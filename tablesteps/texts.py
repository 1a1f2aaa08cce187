"""Texts as lists of bytes: the bytes that mean something, and how a text is cut."""

LINE_END = 10
BLANK = 32
QUOTE = 34
COMMA = 44
MINUS = 45
SLASH = 47
DIGIT_0 = 48
DIGIT_9 = 57
COLON = 58
BACKSLASH = 92
UNDERLINE = 95
LETTER_A = 97
LETTER_N = 110
LETTER_Z = 122

DIGITS = "0123456789"
LETTERS = "abcdefghijklmnopqrstuvwxyz"


# Raised wherever a line turns out wrong; whoever walks the lines knows the number.
class LineNotRight(Exception):
    pass


# There is one piece more than marks: the last one is what stands behind the last mark.
def cut_at(row, mark):
    pieces = []
    piece = []
    for byte in row:
        if byte == mark:
            pieces.append(piece)
            piece = []
        else:
            piece.append(byte)
    pieces.append(piece)
    return pieces


def is_digit(byte):
    return DIGIT_0 <= byte and byte <= DIGIT_9


def is_letter(byte):
    return LETTER_A <= byte and byte <= LETTER_Z


def is_word_byte(byte):
    return is_letter(byte) or is_digit(byte) or byte == UNDERLINE


def word_sign(byte):
    if is_letter(byte):
        return LETTERS[byte - LETTER_A]
    if is_digit(byte):
        return DIGITS[byte - DIGIT_0]
    if byte == UNDERLINE:
        return "_"
    raise LineNotRight()


def bytes_of(word):
    return [ord(sign) for sign in word]


# Words are kept as Python's texts, so that they can be compared with written ones.
def word_of(row):
    return "".join([word_sign(byte) for byte in row])
