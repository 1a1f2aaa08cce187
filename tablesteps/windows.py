"""Windows: what is told of each row among those with the same cells."""

from tablesteps.exact import sum_of
from tablesteps.ordering import compare_rows, in_order
from tablesteps.rows import groups_of, place_of, places_of, rankings_of


# Each row's sum is told, so each has to be within the limits, and the next one may go on from it.
def sums_so_far(cells, sort):
    told = []
    last = None
    for cell in cells:
        if cell is not None:
            last = cell if last is None else sum_of([last, cell], sort)
        told.append(last)
    return told


def ranks(rows, rankings):
    told = []
    for number, row in enumerate(rows):
        if number > 0 and compare_rows(rows[number - 1], row, rankings) == 0:
            told.append(told[-1])
        else:
            told.append(number + 1)
    return told


# The cells that are told of the rows, which stand in the window's order.
def told_of(made, rows, columns, rankings):
    if made.what == "number":
        return list(range(1, len(rows) + 1))
    if made.what == "rank":
        return ranks(rows, rankings)
    place = place_of(made.column, columns)
    cells = [row[place] for row in rows]
    if made.what == "sum":
        return sums_so_far(cells, columns[place][1])
    return [None] + cells[:-1]


# The numbers of the rows, in the window's order.
def window_order(group, rows, rankings):
    order = in_order([rows[number] for number in group], rankings)
    return [group[place] for place in order]


def window_rows(step, table):
    rankings = rankings_of(step.ordering, table.columns)
    widened = [list(row) for row in table.rows]
    for group in groups_of(table.rows, places_of(step.names, table.columns)):
        numbers = window_order(group, table.rows, rankings)
        rows = [table.rows[number] for number in numbers]
        for made in step.made:
            for number, cell in zip(numbers, told_of(made, rows, table.columns, rankings)):
                widened[number].append(cell)
    return widened
