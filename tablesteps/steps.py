"""Steps: what each kind holds, and reading one from its line."""

from tablesteps.expressions import take_expression
from tablesteps.texts import LineNotRight
from tablesteps.tokens import END, is_name, need, read_tokens, skip, take_index, take_name, take_token, token_ahead

MADE_OF_COLUMNS = ("values", "sum", "least", "greatest", "mean", "first", "last")


class Where:
    def __init__(self, expression):
        self.expression = expression


class Keep:
    def __init__(self, picks):
        self.picks = picks


class With:
    def __init__(self, name, expression):
        self.name = name
        self.expression = expression


class Join:
    def __init__(self, left, number, pairs, picks):
        self.left = left
        self.number = number
        self.pairs = pairs
        self.picks = picks


class Group:
    def __init__(self, names, made):
        self.names = names
        self.made = made


class Order:
    def __init__(self, ordering):
        self.ordering = ordering


class Part:
    def __init__(self, skipped, most):
        self.skipped = skipped
        self.most = most


class Distinct:
    pass


class Plus:
    def __init__(self, number):
        self.number = number


class Minus:
    def __init__(self, number):
        self.number = number


class Window:
    def __init__(self, names, ordering, made):
        self.names = names
        self.ordering = ordering
        self.made = made


# A column that is taken over: its name where it comes from, and its name from then on.
class Pick:
    def __init__(self, old, new):
        self.old = old
        self.new = new


class Pair:
    def __init__(self, here, there):
        self.here = here
        self.there = there


class Key:
    def __init__(self, name, down):
        self.name = name
        self.down = down


# What a group makes or a window tells: column is None where none is asked.
class Made:
    def __init__(self, what, column, name):
        self.what = what
        self.column = column
        self.name = name


def take_pick(tokens):
    old = take_name(tokens)
    if skip(tokens, ("word", "as")):
        return Pick(old, take_name(tokens))
    return Pick(old, old)


def take_pair(tokens):
    here = take_name(tokens)
    need(tokens, ("sign", "="))
    return Pair(here, take_name(tokens))


def take_key(tokens):
    name = take_name(tokens)
    return Key(name, skip(tokens, ("word", "down")))


def take_new_name(tokens):
    need(tokens, ("word", "as"))
    return take_name(tokens)


def take_made(tokens):
    token = take_token(tokens)
    if token == ("word", "rows"):
        return Made("rows", None, take_new_name(tokens))
    if token[0] != "word" or token[1] not in MADE_OF_COLUMNS:
        raise LineNotRight()
    column = take_name(tokens)
    return Made(token[1], column, take_new_name(tokens))


def take_told(tokens):
    token = take_token(tokens)
    if token == ("word", "number") or token == ("word", "rank"):
        return Made(token[1], None, take_new_name(tokens))
    if token != ("word", "sum") and token != ("word", "before"):
        raise LineNotRight()
    column = take_name(tokens)
    return Made(token[1], column, take_new_name(tokens))


def take_list(tokens, take_one):
    taken = [take_one(tokens)]
    while skip(tokens, ("sign", ",")):
        taken.append(take_one(tokens))
    return taken


def take_names(tokens):
    if not is_name(token_ahead(tokens)):
        return []
    return take_list(tokens, take_name)


def take_with(tokens):
    name = take_name(tokens)
    need(tokens, ("sign", "="))
    return With(name, take_expression(tokens))


def take_join(tokens, left):
    number = take_index(tokens)
    need(tokens, ("word", "on"))
    pairs = take_list(tokens, take_pair)
    picks = []
    if skip(tokens, ("word", "take")):
        picks = take_list(tokens, take_pick)
    return Join(left, number, pairs, picks)


def take_group(tokens):
    names = take_names(tokens)
    made = []
    if skip(tokens, ("sign", ":")):
        made = take_list(tokens, take_made)
    elif len(names) == 0:
        raise LineNotRight()
    return Group(names, made)


def take_part(tokens):
    skipped = take_index(tokens)
    return Part(skipped, take_index(tokens))


def take_window(tokens):
    names = take_names(tokens)
    ordering = []
    if skip(tokens, ("word", "by")):
        ordering = take_list(tokens, take_key)
    need(tokens, ("sign", ":"))
    return Window(names, ordering, take_list(tokens, take_told))


def take_step(tokens):
    token = take_token(tokens)
    if token == ("word", "where"):
        return Where(take_expression(tokens))
    if token == ("word", "keep"):
        return Keep(take_list(tokens, take_pick))
    if token == ("word", "with"):
        return take_with(tokens)
    if token == ("word", "join"):
        return take_join(tokens, False)
    if token == ("word", "left"):
        need(tokens, ("word", "join"))
        return take_join(tokens, True)
    if token == ("word", "group"):
        return take_group(tokens)
    if token == ("word", "order"):
        return Order(take_list(tokens, take_key))
    if token == ("word", "part"):
        return take_part(tokens)
    if token == ("word", "distinct"):
        return Distinct()
    if token == ("word", "plus"):
        return Plus(take_index(tokens))
    if token == ("word", "minus"):
        return Minus(take_index(tokens))
    if token == ("word", "window"):
        return take_window(tokens)
    raise LineNotRight()


def read_step(line):
    tokens = read_tokens(line)
    step = take_step(tokens)
    if token_ahead(tokens) != END:
        raise LineNotRight()
    return step
