"""The sorts of expressions: what each sign takes, and what comes of it."""

from tablesteps.expressions import how_many_taken
from tablesteps.rules import SORTS_APART, RuleBroken

NUMBER_SORTS = ("whole", "fraction")


def need_all(taken, sorts):
    for sort in taken:
        if sort not in sorts:
            raise RuleBroken(SORTS_APART)


def need_same(one, other):
    if one != other:
        raise RuleBroken(SORTS_APART)


# A whole and a fraction are both numbers; else only what is of one sort is compared.
def need_alike(one, other):
    if one not in NUMBER_SORTS or other not in NUMBER_SORTS:
        need_same(one, other)


def sort_of_numbers(sign, taken):
    need_all(taken, NUMBER_SORTS)
    if sign == "/" or "fraction" in taken:
        return "fraction"
    return "whole"


def sort_of_texts(sign, taken):
    need_all(taken, ("text",))
    return "whole" if sign == "length" else "text"


def sort_of_test(sign, taken):
    if sign != "==":
        need_all(taken, ("whole", "fraction", "text"))
    need_alike(taken[0], taken[1])
    return "truth"


def sort_of_sign(sign, taken):
    if sign in ("+", "-", "*", "/", "negative"):
        return sort_of_numbers(sign, taken)
    if sign in ("++", "length"):
        return sort_of_texts(sign, taken)
    if sign in ("==", "<", "<="):
        return sort_of_test(sign, taken)
    if sign in ("not", "and", "or"):
        need_all(taken, ("truth",))
        return "truth"
    if sign == "none":
        return "truth"
    if sign == "if":
        need_same(taken[0], "truth")
    need_same(taken[-2], taken[-1])
    return taken[-1]


def sort_of_part(part, taken, sorts):
    if part[0] == "sign":
        return sort_of_sign(part[1], taken)
    if part[0] == "name":
        return sorts[part[1]]
    return part[0]


# For each part the sorts that it takes, and behind them all that of the whole expression.
def sorts_taken(expression, sorts):
    all_taken = []
    at_hand = []
    for part in expression:
        left = len(at_hand) - how_many_taken(part)
        taken = at_hand[left:]
        at_hand = at_hand[:left] + [sort_of_part(part, taken, sorts)]
        all_taken.append(taken)
    all_taken.append(at_hand)
    return all_taken


def sort_of(expression, sorts):
    return sorts_taken(expression, sorts)[-1][0]
