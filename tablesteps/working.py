"""Working a question out: the rows that come of each step."""

from tablesteps.exact import TooLarge
from tablesteps.grouping import grouped_rows
from tablesteps.ordering import in_order
from tablesteps.reader import MOST_ROWS, Table
from tablesteps.rows import cells_at, groups_of, places_of, rankings_of
from tablesteps.sorts import sorts_taken
from tablesteps.steps import Distinct, Group, Join, Keep, Minus, Order, Part, Plus, Where, Window, With
from tablesteps.values import value_of
from tablesteps.windows import window_rows


def all_places(table):
    return list(range(len(table.columns)))


# The expression's value in each row.
def values_in_rows(expression, table):
    all_taken = sorts_taken(expression, dict(table.columns))
    names = [column[0] for column in table.columns]
    return [value_of(expression, all_taken, dict(zip(names, row))) for row in table.rows]


def rows_where(step, table):
    values = values_in_rows(step.expression, table)
    return [row for row, value in zip(table.rows, values) if value is True]


def rows_with(step, table):
    values = values_in_rows(step.expression, table)
    return [row + [value] for row, value in zip(table.rows, values)]


def rows_kept(step, table):
    places = places_of([pick.old for pick in step.picks], table.columns)
    return [list(cells_at(row, places)) for row in table.rows]


# What is taken of each of the other table's rows, by its cells of the pairs. A none there
# fits no row, so rows with one are left out, and a none here finds nothing.
def rows_to_join(step, other):
    there = places_of([pair.there for pair in step.pairs], other.columns)
    places = places_of([pick.old for pick in step.picks], other.columns)
    found = {}
    for row in other.rows:
        cells = cells_at(row, there)
        if None not in cells:
            found.setdefault(cells, []).append(list(cells_at(row, places)))
    return found


def rows_joined(step, table, other):
    here = places_of([pair.here for pair in step.pairs], table.columns)
    found = rows_to_join(step, other)
    without = [[None] * len(step.picks)] if step.left else []
    rows = []
    for row in table.rows:
        for taken in found.get(cells_at(row, here), without):
            rows.append(row + taken)
    return rows


def rows_in_order(step, table):
    order = in_order(table.rows, rankings_of(step.ordering, table.columns))
    return [table.rows[number] for number in order]


def rows_distinct(table):
    return [table.rows[group[0]] for group in groups_of(table.rows, all_places(table))]


def rows_without(table, other):
    places = all_places(table)
    found = {}
    for row in other.rows:
        found[cells_at(row, places)] = True
    return [row for row in table.rows if cells_at(row, places) not in found]


def rows_after(step, table, tables):
    if isinstance(step, Where):
        return rows_where(step, table)
    if isinstance(step, Keep):
        return rows_kept(step, table)
    if isinstance(step, With):
        return rows_with(step, table)
    if isinstance(step, Join):
        return rows_joined(step, table, tables[step.number])
    if isinstance(step, Group):
        return grouped_rows(step, table)
    if isinstance(step, Order):
        return rows_in_order(step, table)
    if isinstance(step, Part):
        return table.rows[step.skipped:step.skipped + step.most]
    if isinstance(step, Distinct):
        return rows_distinct(table)
    if isinstance(step, Plus):
        return table.rows + tables[step.number].rows
    if isinstance(step, Minus):
        return rows_without(table, tables[step.number])
    return window_rows(step, table)


# Too large is told only of steps that are right, so all of them are judged before.
def work_out(asked):
    table = asked.tables[0]
    for step, columns in zip(asked.steps, asked.columns[1:]):
        rows = rows_after(step, table, asked.tables)
        if len(rows) > MOST_ROWS:
            raise TooLarge()
        table = Table(columns, rows)
    return table
