"""Expressions: reading one into the row of its parts.

A part stands behind the parts that it works on, so a + b * c is the row
a, b, c, *, +; whoever goes through the row keeps the values at hand in a list.
A part is a pair: "name" and the name, "whole", "fraction", "text" or "truth"
and the value, or "sign" and what is done. The "-" before a number is called
"negative" here, and "(a else b)" is "else".
"""

from tablesteps.texts import LineNotRight
from tablesteps.tokens import END, is_name, take_token

# How closely a sign binds. What has no number here opens a place for an expression.
BINDING = {
    "or": 1, "and": 2, "not": 3, "==": 4, "<": 4, "<=": 4, "+": 5, "-": 5, "++": 5, "*": 6, "/": 6,
    "negative": 7, "length": 7, "none": 7,
}
NOT_BINDS = 3
TEST_BINDS = 4

BETWEEN_TWO = ("or", "and", "==", "<", "<=", "+", "-", "++", "*", "/")
OF_ONE = ("not", "negative", "length", "none")
VALUE_KINDS = ("whole", "fraction", "text")


# waiting holds the signs whose last operand isn't read yet, and what has opened a
# place for an expression: "start", "(", "( else", "if", "then" or "else" (of an if).
class Reading:
    def __init__(self):
        self.parts = []
        self.waiting = ["start"]


def how_many_taken(part):
    if part[0] != "sign":
        return 0
    if part[1] in OF_ONE:
        return 1
    return 3 if part[1] == "if" else 2


def last_binding(reading):
    return BINDING.get(reading.waiting[-1], 0)


def finish_signs(reading, least):
    while last_binding(reading) >= least:
        reading.parts.append(("sign", reading.waiting.pop()))


# An if goes as far as it can, so it ends only where the place around it goes on.
def finish_ifs(reading):
    finish_signs(reading, 1)
    while reading.waiting[-1] == "else":
        reading.waiting.pop()
        reading.parts.append(("sign", "if"))


def change_opening(reading, opening):
    reading.waiting.pop()
    reading.waiting.append(opening)


def read_sign_before(reading, token):
    if token == ("sign", "("):
        reading.waiting.append("(")
    elif token == ("sign", "-"):
        reading.waiting.append("negative")
    elif token == ("word", "length") or token == ("word", "none"):
        reading.waiting.append(token[1])
    elif token == ("word", "not") and last_binding(reading) <= NOT_BINDS:
        reading.waiting.append("not")
    elif token == ("word", "if") and last_binding(reading) == 0:
        reading.waiting.append("if")
    else:
        raise LineNotRight()


# Whether an operand was ended by the token.
def read_operand(reading, token):
    if token[0] in VALUE_KINDS:
        reading.parts.append(token)
    elif token == ("word", "true") or token == ("word", "false"):
        reading.parts.append(("truth", token[1] == "true"))
    elif is_name(token):
        reading.parts.append(("name", token[1]))
    else:
        read_sign_before(reading, token)
        return False
    return True


def read_sign_between(reading, sign):
    binds = BINDING[sign]
    if binds == TEST_BINDS:
        finish_signs(reading, binds + 1)
        # Two tests side by side have no meaning without parentheses.
        if last_binding(reading) == TEST_BINDS:
            raise LineNotRight()
    else:
        finish_signs(reading, binds)
    reading.waiting.append(sign)


def read_then(reading):
    finish_ifs(reading)
    if reading.waiting[-1] != "if":
        raise LineNotRight()
    change_opening(reading, "then")


def read_else(reading):
    finish_ifs(reading)
    if reading.waiting[-1] == "then":
        change_opening(reading, "else")
    elif reading.waiting[-1] == "(":
        change_opening(reading, "( else")
    else:
        raise LineNotRight()


def read_closing(reading):
    finish_ifs(reading)
    opening = reading.waiting.pop()
    if opening == "( else":
        reading.parts.append(("sign", "else"))
    elif opening != "(":
        raise LineNotRight()


# Whether an operand was ended by the token.
def read_behind_operand(reading, token):
    if token == ("sign", ")"):
        read_closing(reading)
        return True
    if token == ("word", "then"):
        read_then(reading)
    elif token == ("word", "else"):
        read_else(reading)
    elif (token[0] == "sign" or token[0] == "word") and token[1] in BETWEEN_TWO:
        read_sign_between(reading, token[1])
    else:
        raise LineNotRight()
    return False


# An expression always goes to its line's end.
def take_expression(tokens):
    reading = Reading()
    ended = False
    token = take_token(tokens)
    while token != END:
        if ended:
            ended = read_behind_operand(reading, token)
        else:
            ended = read_operand(reading, token)
        token = take_token(tokens)
    finish_ifs(reading)
    if not ended or reading.waiting != ["start"]:
        raise LineNotRight()
    return reading.parts
