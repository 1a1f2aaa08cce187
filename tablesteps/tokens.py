"""A line's tokens, and how they are taken one after the other.

A token is a pair: "word" and the word, "whole" or "fraction" and the number,
"text" and its bytes, or "sign" and the sign.
"""

from tablesteps.cells import read_fraction, read_size, read_text
from tablesteps.columns import LONGEST_NAME, TAKEN_WORDS
from tablesteps.texts import BACKSLASH, BLANK, QUOTE, SLASH
from tablesteps.texts import LineNotRight, is_digit, is_letter, is_word_byte, word_of

MOST_TOKENS = 80
GREATEST_INDEX = 9999

SIGNS = {40: "(", 41: ")", 42: "*", 43: "+", 44: ",", 45: "-", 47: "/", 58: ":", 60: "<", 61: "="}
DOUBLE_SIGNS = ("==", "<=", "++")

# What stands behind a line's last token, so that none has to be asked for.
END = ("end", "")


class Tokens:
    def __init__(self, found):
        self.found = found
        self.place = 0


def end_of_word(line, place):
    while place < len(line) and is_word_byte(line[place]):
        place = place + 1
    return place


def end_of_digits(line, place):
    while place < len(line) and is_digit(line[place]):
        place = place + 1
    return place


def end_of_number(line, place):
    end = end_of_digits(line, place)
    # A / without a digit right behind it is a sign of its own.
    if end + 1 < len(line) and line[end] == SLASH and is_digit(line[end + 1]):
        return end_of_digits(line, end + 1)
    return end


def end_of_text(line, place):
    place = place + 1
    while place < len(line) and line[place] != QUOTE:
        # Whatever stands behind a \ doesn't end the text.
        place = place + 2 if line[place] == BACKSLASH else place + 1
    if place >= len(line):
        raise LineNotRight()
    return place + 1


def sign_at(line, place):
    sign = SIGNS.get(line[place], "")
    if sign == "":
        raise LineNotRight()
    if place + 1 < len(line):
        double = sign + SIGNS.get(line[place + 1], "")
        if double in DOUBLE_SIGNS:
            return double
    return sign


def end_of_token(line, place):
    if is_letter(line[place]):
        return end_of_word(line, place)
    if is_digit(line[place]):
        return end_of_number(line, place)
    if line[place] == QUOTE:
        return end_of_text(line, place)
    return place + len(sign_at(line, place))


def token_of(piece):
    if is_letter(piece[0]):
        return ("word", word_of(piece))
    if is_digit(piece[0]):
        if SLASH in piece:
            return ("fraction", read_fraction(piece))
        return ("whole", read_size(piece))
    if piece[0] == QUOTE:
        return ("text", read_text(piece))
    return ("sign", sign_at(piece, 0))


def read_tokens(line):
    found = []
    place = 0
    while place < len(line):
        if line[place] == BLANK:
            place = place + 1
        else:
            end = end_of_token(line, place)
            found.append(token_of(line[place:end]))
            place = end
    if len(found) > MOST_TOKENS:
        raise LineNotRight()
    return Tokens(found)


def token_ahead(tokens):
    if tokens.place < len(tokens.found):
        return tokens.found[tokens.place]
    return END


def take_token(tokens):
    token = token_ahead(tokens)
    tokens.place = tokens.place + 1
    return token


# Whether the token was there; only then it is taken.
def skip(tokens, token):
    if token_ahead(tokens) != token:
        return False
    tokens.place = tokens.place + 1
    return True


def need(tokens, token):
    if not skip(tokens, token):
        raise LineNotRight()


def is_name(token):
    return token[0] == "word" and len(token[1]) <= LONGEST_NAME and token[1] not in TAKEN_WORDS


def take_name(tokens):
    token = take_token(tokens)
    if not is_name(token):
        raise LineNotRight()
    return token[1]


def take_index(tokens):
    token = take_token(tokens)
    if token[0] != "whole" or token[1] > GREATEST_INDEX:
        raise LineNotRight()
    return token[1]
