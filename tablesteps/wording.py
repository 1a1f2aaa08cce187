"""Expressions as the tokens that they are written with.

A token here is a part of an expression as it stands there, or a pair of "word"
and a word.
"""

from tablesteps.expressions import BINDING, OF_ONE, TEST_BINDS, how_many_taken

OPENING = ("sign", "(")
CLOSING = ("sign", ")")

# Where a form stands in the document's list: the further up, the less it is.
IF_LEVEL = 0
FIRST_LEVEL = 8


class Piece:
    def __init__(self, tokens, level):
        self.tokens = tokens
        self.level = level


def tokens_at(piece, level):
    if piece.level < level:
        return [OPENING] + piece.tokens + [CLOSING]
    return piece.tokens


def with_else(piece, other):
    return tokens_at(piece, IF_LEVEL) + [("word", "else")] + tokens_at(other, IF_LEVEL)


def piece_of_if(taken):
    asked = [("word", "if")] + tokens_at(taken[0], IF_LEVEL) + [("word", "then")]
    return Piece(asked + with_else(taken[1], taken[2]), IF_LEVEL)


# Its parentheses are a part of its form, so it never needs others.
def piece_of_else(taken):
    return Piece([OPENING] + with_else(taken[0], taken[1]) + [CLOSING], FIRST_LEVEL)


def piece_between(part, taken):
    level = BINDING[part[1]]
    # A test takes no other test on its left, while all else goes on from the left.
    left = level + 1 if level == TEST_BINDS else level
    return Piece(tokens_at(taken[0], left) + [part] + tokens_at(taken[1], level + 1), level)


def piece_of(part, taken):
    if part[0] != "sign":
        return Piece([part], FIRST_LEVEL)
    if part[1] == "if":
        return piece_of_if(taken)
    if part[1] == "else":
        return piece_of_else(taken)
    if part[1] in OF_ONE:
        level = BINDING[part[1]]
        return Piece([part] + tokens_at(taken[0], level), level)
    return piece_between(part, taken)


def tokens_of_expression(expression):
    at_hand = []
    for part in expression:
        left = len(at_hand) - how_many_taken(part)
        at_hand = at_hand[:left] + [piece_of(part, at_hand[left:])]
    return at_hand[0].tokens
