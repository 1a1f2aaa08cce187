"""Judging a step: whether it fits the tables' columns, and the columns that come of it."""

from tablesteps.columns import MOST_COLUMNS
from tablesteps.rules import NAMES_CLASH, NOT_THERE, SORTS_APART, RuleBroken
from tablesteps.sorts import NUMBER_SORTS, need_all, need_same, sort_of
from tablesteps.steps import Group, Join, Keep, Minus, Order, Plus, Where, Window, With


def need_there(names, columns):
    there = [column[0] for column in columns]
    for name in names:
        if name not in there:
            raise RuleBroken(NOT_THERE)


def names_in(expression):
    return [part[1] for part in expression if part[0] == "name"]


def names_made_of(made):
    return [one.column for one in made if one.column is not None]


def names_of_keys(ordering):
    return [key.name for key in ordering]


def names_here(step):
    if isinstance(step, Where) or isinstance(step, With):
        return names_in(step.expression)
    if isinstance(step, Keep):
        return [pick.old for pick in step.picks]
    if isinstance(step, Join):
        return [pair.here for pair in step.pairs]
    if isinstance(step, Group):
        return step.names + names_made_of(step.made)
    if isinstance(step, Order):
        return names_of_keys(step.ordering)
    if isinstance(step, Window):
        return step.names + names_of_keys(step.ordering) + names_made_of(step.made)
    return []


def names_there(step):
    return [pair.there for pair in step.pairs] + [pick.old for pick in step.picks]


def check_there(step, columns, tables):
    need_there(names_here(step), columns)
    if isinstance(step, Join) or isinstance(step, Plus) or isinstance(step, Minus):
        if step.number >= len(tables):
            raise RuleBroken(NOT_THERE)
    if isinstance(step, Join):
        need_there(names_there(step), tables[step.number].columns)


def columns_picked(picks, columns):
    sorts = dict(columns)
    return [(pick.new, sorts[pick.old]) for pick in picks]


def columns_joined(step, columns, other):
    here = dict(columns)
    there = dict(other)
    for pair in step.pairs:
        need_same(here[pair.here], there[pair.there])
    return columns + columns_picked(step.picks, other)


def sort_made(made, sorts):
    if made.column is None or made.what == "values":
        return "whole"
    sort = sorts[made.column]
    if made.what == "sum" or made.what == "mean":
        need_all([sort], NUMBER_SORTS)
    if made.what == "least" or made.what == "greatest":
        need_all([sort], ("whole", "fraction", "text"))
    return "fraction" if made.what == "mean" else sort


def columns_made(made, columns):
    sorts = dict(columns)
    return [(one.name, sort_made(one, sorts)) for one in made]


def columns_grouped(step, columns):
    sorts = dict(columns)
    return [(name, sorts[name]) for name in step.names] + columns_made(step.made, columns)


def need_same_sorts(columns, other):
    if [column[1] for column in columns] != [column[1] for column in other]:
        raise RuleBroken(SORTS_APART)


def columns_after(step, columns, tables):
    if isinstance(step, Where):
        need_same(sort_of(step.expression, dict(columns)), "truth")
    if isinstance(step, Plus) or isinstance(step, Minus):
        need_same_sorts(columns, tables[step.number].columns)
    if isinstance(step, Keep):
        return columns_picked(step.picks, columns)
    if isinstance(step, With):
        return columns + [(step.name, sort_of(step.expression, dict(columns)))]
    if isinstance(step, Join):
        return columns_joined(step, columns, tables[step.number].columns)
    if isinstance(step, Group):
        return columns_grouped(step, columns)
    if isinstance(step, Window):
        return columns + columns_made(step.made, columns)
    return columns


# Columns that a step left out are not there any more, so their names are free again.
def check_names(columns):
    names = [column[0] for column in columns]
    if len(names) > MOST_COLUMNS or len(set(names)) != len(names):
        raise RuleBroken(NAMES_CLASH)


# Of one step the least rule is told, so each rule is asked of all of it before the next.
def judge_step(step, columns, tables):
    check_there(step, columns, tables)
    after = columns_after(step, columns, tables)
    check_names(after)
    return after
