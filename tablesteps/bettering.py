"""Better questions: the rules by which two steps, one right before the other, make way for others.

Each rule is handed the two steps and gives back what stands in their place, or
None where it doesn't fit.
"""

from tablesteps.judging import names_in
from tablesteps.lines import tokens_of_step
from tablesteps.steps import Distinct, Join, Keep, Order, Part, Pick, Where, With
from tablesteps.tokens import GREATEST_INDEX, MOST_TOKENS

# The signs by which something may become too large, so that it matters of which rows it is asked.
UNSURE = ("+", "-", "*", "/", "++", "negative")


def is_sure(expression):
    for part in expression:
        if part[0] == "sign" and part[1] in UNSURE:
            return False
    return True


def is_sure_where(step):
    return isinstance(step, Where) and is_sure(step.expression)


def if_line_allows(step):
    return [step] if len(tokens_of_step(step)) <= MOST_TOKENS else None


def names_before(picks):
    return dict([(pick.new, pick.old) for pick in picks])


def named_before(part, before):
    return ("name", before[part[1]]) if part[0] == "name" else part


def join_wheres(first, second):
    if not is_sure_where(first) or not is_sure_where(second):
        return None
    return if_line_allows(Where(first.expression + second.expression + [("sign", "and")]))


def where_before_order(first, second):
    if isinstance(first, Order) and is_sure_where(second):
        return [second, first]
    return None


def where_before_distinct(first, second):
    if isinstance(first, Distinct) and is_sure_where(second):
        return [second, first]
    return None


def where_before_with(first, second):
    if not isinstance(first, With) or not is_sure_where(second):
        return None
    if first.name in names_in(second.expression) or not is_sure(first.expression):
        return None
    return [second, first]


def where_before_keep(first, second):
    if not isinstance(first, Keep) or not is_sure_where(second):
        return None
    before = names_before(first.picks)
    return [Where([named_before(part, before) for part in second.expression]), first]


def where_before_join(first, second):
    if not isinstance(first, Join) or not is_sure_where(second):
        return None
    asked = names_in(second.expression)
    for pick in first.picks:
        if pick.new in asked:
            return None
    return [second, first]


def join_orders(first, second):
    if not isinstance(first, Order) or not isinstance(second, Order):
        return None
    names = [key.name for key in second.ordering]
    return if_line_allows(Order(second.ordering + [key for key in first.ordering if key.name not in names]))


def join_keeps(first, second):
    if not isinstance(first, Keep) or not isinstance(second, Keep):
        return None
    before = names_before(first.picks)
    return if_line_allows(Keep([Pick(before[pick.old], pick.new) for pick in second.picks]))


def join_distincts(first, second):
    if isinstance(first, Distinct) and isinstance(second, Distinct):
        return [second]
    return None


def join_parts(first, second):
    if not isinstance(first, Part) or not isinstance(second, Part):
        return None
    skipped = first.skipped + second.skipped
    if skipped > GREATEST_INDEX:
        return None
    return [Part(skipped, min(second.most, max(first.most - second.skipped, 0)))]


RULES = (
    join_wheres, where_before_order, where_before_distinct, where_before_with, where_before_keep, where_before_join,
    join_orders, join_keeps, join_distincts, join_parts,
)


# The steps behind the first rule that fits anywhere, at its first place, or None.
def bettered_once(steps):
    for rule in RULES:
        for place in range(1, len(steps)):
            made = rule(steps[place - 1], steps[place])
            if made is not None:
                return steps[:place - 1] + made + steps[place + 1:]
    return None


def better_steps(steps):
    further = bettered_once(steps)
    while further is not None:
        steps = further
        further = bettered_once(steps)
    return steps
