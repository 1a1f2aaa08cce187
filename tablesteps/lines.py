"""Steps as lines: the tokens of each, and the blanks between them."""

from tablesteps.columns import SORTS
from tablesteps.steps import Distinct, Group, Join, Keep, Minus, Order, Part, Plus, Where, Window, With
from tablesteps.texts import BLANK, LINE_END, bytes_of
from tablesteps.wording import CLOSING, OPENING, tokens_of_expression
from tablesteps.writer import write_cell

COMMA_SIGN = ("sign", ",")
COLON_SIGN = ("sign", ":")
# The - before a number, by its name among the parts of an expression.
NEGATIVE = ("sign", "negative")


def words(row):
    return [("word", one) for one in row]


def tokens_of_pick(pick):
    if pick.old == pick.new:
        return words([pick.old])
    return words([pick.old, "as", pick.new])


def tokens_of_pair(pair):
    return words([pair.here, "=", pair.there])


def tokens_of_key(key):
    return words([key.name, "down"] if key.down else [key.name])


def tokens_of_made(made):
    if made.column is None:
        return words([made.what, "as", made.name])
    return words([made.what, made.column, "as", made.name])


def with_commas(rows):
    tokens = []
    for number, row in enumerate(rows):
        if number > 0:
            tokens.append(COMMA_SIGN)
        tokens.extend(row)
    return tokens


def tokens_of_names(names):
    return with_commas([words([name]) for name in names])


def tokens_of_picks(picks):
    return with_commas([tokens_of_pick(pick) for pick in picks])


def tokens_of_keys(ordering):
    return with_commas([tokens_of_key(key) for key in ordering])


def tokens_behind_colon(made):
    return [COLON_SIGN] + with_commas([tokens_of_made(one) for one in made])


def tokens_of_join(step):
    tokens = words(["left", "join"] if step.left else ["join"])
    tokens = tokens + [("whole", step.number)] + words(["on"])
    tokens = tokens + with_commas([tokens_of_pair(pair) for pair in step.pairs])
    if len(step.picks) > 0:
        tokens = tokens + words(["take"]) + tokens_of_picks(step.picks)
    return tokens


def tokens_of_group(step):
    tokens = words(["group"]) + tokens_of_names(step.names)
    if len(step.made) > 0:
        tokens = tokens + tokens_behind_colon(step.made)
    return tokens


def tokens_of_window(step):
    tokens = words(["window"]) + tokens_of_names(step.names)
    if len(step.ordering) > 0:
        tokens = tokens + words(["by"]) + tokens_of_keys(step.ordering)
    return tokens + tokens_behind_colon(step.made)


def tokens_of_step(step):
    if isinstance(step, Where):
        return words(["where"]) + tokens_of_expression(step.expression)
    if isinstance(step, Keep):
        return words(["keep"]) + tokens_of_picks(step.picks)
    if isinstance(step, With):
        return words(["with", step.name, "="]) + tokens_of_expression(step.expression)
    if isinstance(step, Join):
        return tokens_of_join(step)
    if isinstance(step, Group):
        return tokens_of_group(step)
    if isinstance(step, Order):
        return words(["order"]) + tokens_of_keys(step.ordering)
    if isinstance(step, Part):
        return words(["part"]) + [("whole", step.skipped), ("whole", step.most)]
    if isinstance(step, Distinct):
        return words(["distinct"])
    if isinstance(step, Plus):
        return words(["plus"]) + [("whole", step.number)]
    if isinstance(step, Minus):
        return words(["minus"]) + [("whole", step.number)]
    return tokens_of_window(step)


def write_token(token):
    if token[0] in SORTS:
        return write_cell(token[1], token[0])
    if token == NEGATIVE:
        return bytes_of("-")
    return bytes_of(token[1])


def needs_blank(token, following):
    if token == OPENING or token == NEGATIVE:
        return False
    return following != COMMA_SIGN and following != COLON_SIGN and following != CLOSING


def write_step(step):
    tokens = tokens_of_step(step)
    line = []
    for number, token in enumerate(tokens):
        if number > 0 and needs_blank(tokens[number - 1], token):
            line.append(BLANK)
        line.extend(write_token(token))
    line.append(LINE_END)
    return line


def write_question(steps):
    text = []
    for step in steps:
        text.extend(write_step(step))
    return text
